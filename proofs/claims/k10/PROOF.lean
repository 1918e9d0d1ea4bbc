import PyProof.Rows.All
import Wide.All
import OpenK.AllK
import Wide.FinOn
import HandS.Words
import HandS.Nested
import HandS.Lambda
import HandS.ForMost
import PyProof.ReprRoads
import HandS.Wide
import HandS.IsInst
import HandS.ExcInit
import HandS.ExcValue
import HandS.Flow
import HandS.Codes
import KE.KExcIs
import KE.KExcInit
import PyProof.ExcBaseAll.OverflowError
import PyProof.ExcBaseAll.ArithmeticError
import PyProof.ExcBaseAll.RuntimeError
import PyProof.ExcBaseAll.IndexError
import PyProof.ExcBaseAll.LookupError
import HandS.Exc
import HandS.TryOnly
import PyProof.Rows.SetFrom
import PyProof.StrWalks
import HandS.Set
import HandS.TupSets
import HandS.SetTxt0
import HandS.SetTxtIn
import HandS.Strs
import HandS.Style
import HandS.StrMore
import HandS.Text
import PyProof.StrLawsFrom
import PyProof.Rows.StrCountLaw
import PyProof.Rows.StrRev
import PyProof.Rows.StrMul
import HandS.Walk
import HandS.Conv
import HandS.WordsExc
import HandS.Dict
import PyProof.Rows.TupDisplay
import KE.GoesNew
import HandS.DictComp
import HandS.More
import HandS.Zip
import KE.GoesEnum
import HandS.SlotsOwn
import HandS.Property
import KE.KCallOwn
import KE.KFmtOwn
import PyProof.InstNe
import HandS.FStr
import HandS.Star
import KE.KDictZip
import HandS.Zip0
import HandS.ExcField
import HandS.RaiseMore
import HandS.ExcOwn
import HandS.Defaults
import HandS.TupMul
import HandS.ClsMeth
import HandS.EndTab
import HandS.HeadHook3
import HandS.Head2
import HandS.HeadHook1
import PySem.Challenge.RW_watchkinds_k10_errors_of_boxes
set_option Elab.async false
set_option linter.all false
set_option maxRecDepth 100000
set_option maxHeartbeats 6000000
namespace FV
open PySem PySem.Spec PyProof.Rows L2 LamX NdefX
/-- the very object o stands at c -/
def Fix (c : Addr) (o : Obj) : HO := .ext fun h => h.get? c = some o
abbrev Cs := List (Addr × Obj)
def Lay (cs : Cs) (H : Hp) : Prop := ∀ p ∈ cs, H p.1 = some (Fix p.1 p.2)
def off (cs : Cs) (H : Hp) : Hp := fun b => if b ∈ cs.map (·.1) then none else H b
def onn (cs : Cs) (H : Hp) : Hp := cs.foldr (fun p G => upd G p.1 (Fix p.1 p.2)) H
theorem off_in {cs : Cs} {H : Hp} {b : Addr} (h : b ∈ cs.map (·.1)) : off cs H b = none := if_pos h
theorem off_out {cs : Cs} {H : Hp} {b : Addr} (h : b ∉ cs.map (·.1)) : off cs H b = H b := if_neg h
theorem onn_out {H : Hp} {b : Addr} : ∀ {cs : Cs}, b ∉ cs.map (·.1) → onn cs H b = H b
  | [], _ => rfl
  | p :: cs, h => by
    show upd (onn cs H) p.1 _ b = _
    rw [upd_ne fun (z : b = p.1) => h (List.mem_map.mpr ⟨p, List.mem_cons_self, z.symm⟩)]
    exact onn_out fun z => h (List.mem_cons_of_mem _ z)
theorem onn_lay {H : Hp} : ∀ {cs : Cs}, (cs.map (·.1)).Nodup → Lay cs (onn cs H)
  | [], _, _, hp => (List.not_mem_nil hp).elim
  | q :: cs, nd, p, hp => by
    obtain ⟨h1, h2⟩ := List.nodup_cons.mp nd
    show upd (onn cs H) q.1 _ p.1 = _
    rcases List.mem_cons.mp hp with rfl | z
    · exact upd_same
    · rw [upd_ne fun (e : p.1 = q.1) => h1 (List.mem_map.mpr ⟨p, z, e⟩)]
      exact onn_lay h2 p z
theorem lay_none {cs : Cs} {H : Hp} (l : Lay cs H) {b : Addr} (h : H b = none) : b ∉ cs.map (·.1) := fun z => by
  obtain ⟨p, hp, rfl⟩ := List.mem_map.mp z
  rw [l p hp] at h
  cases h
theorem lay_not {cs : Cs} {H : Hp} (l : Lay cs H) {b : Addr} {o : HO} (h : H b = some o) (n : ∀ φ, o ≠ .ext φ) : b ∉ cs.map (·.1) := fun z => by
  obtain ⟨p, hp, rfl⟩ := List.mem_map.mp z
  rw [l p hp] at h
  exact n _ (Option.some.inj h).symm
theorem Lay.same {cs : Cs} {H H' : Hp} (l : Lay cs H) (s : ∀ b o, H b = some o → (∀ ps, o ≠ .tbl ps) → H' b = some o) : Lay cs H' := fun p hp => s _ _ (l p hp) fun _ z => nomatch z
section
variable {P : Program} {w : World} {H H' : Hp} {h h' : Heap} {cs : Cs} {fs : List Addr}
theorem lay_at (ok : HOk P w H h) (l : Lay cs H) : ∀ p ∈ cs, h.get? p.1 = some p.2 := fun p hp => (ok p.1 _ (l p hp)).1
theorem hok_off (ok : HOk P w H h) (l : Lay cs H) : HOk P w (off cs H) h := fun b u e => by
  have nb : b ∉ cs.map (·.1) := fun z => by rw [off_in z] at e; cases e
  rw [off_out nb] at e
  exact (ok b u e).stay (fun _ _ _ q => q) (fun d q => by rw [off_out (lay_not l q fun _ z => nomatch z)]; exact q) fun d xs q => by rw [off_out (lay_not l q fun _ z => nomatch z)]; exact q
theorem hok_on (ok : HOk P w H h) (nd : (cs.map (·.1)).Nodup) (n : ∀ p ∈ cs, H p.1 = none) (at_ : ∀ p ∈ cs, h.get? p.1 = some p.2) : HOk P w (onn cs H) h := fun b u e => by
  have out : ∀ {d : Addr} {o : HO}, H d = some o → d ∉ cs.map (·.1) := fun {d o} q z => by
    obtain ⟨p, hp, rfl⟩ := List.mem_map.mp z
    rw [n p hp] at q
    cases q
  by_cases hb : b ∈ cs.map (·.1)
  · obtain ⟨p, hp, rfl⟩ := List.mem_map.mp hb
    rw [onn_lay nd p hp] at e
    cases e
    exact ⟨at_ p hp, ⟨_, at_ p hp⟩, fun _ _ a k => k _ a⟩
  · rw [onn_out hb] at e
    exact (ok b u e).stay (fun _ _ _ q => q) (fun d q => by rw [onn_out (out q)]; exact q) fun d xs q => by rw [onn_out (out q)]; exact q
/-- what a call left of the heap without the cells, told with them -/
theorem un_on (u : Un fs [] (off cs H) H' h h') (l : Lay cs H) : Un fs [] H (onn cs H') h h' where
  keep := fun b o e n hb hx => u.keep b o e (by rw [off_out (lay_none l n)]; exact n) hb hx
  slot := fun b o e n hb hx => u.slot b o e (by rw [off_out (lay_none l n)]; exact n) hb hx
  free := fun b o e n hx => by
    rw [onn_out (lay_none l n)]
    exact u.free b o e (by rw [off_out (lay_none l n)]; exact n) hx
  there := u.there
  tups := fun b xs e => by
    have nb := lay_not l e fun _ z => nomatch z
    rw [onn_out nb]
    exact u.tups b xs (by rw [off_out nb]; exact e)
  frzs := fun b o v e => by
    have nb := lay_not l e fun _ z => nomatch z
    rw [onn_out nb]
    exact u.frzs b o v (by rw [off_out nb]; exact e)
  tbls := fun b ps e => by
    have nb := lay_not l e fun _ z => nomatch z
    obtain ⟨more, q⟩ := u.tbls b ps (by rw [off_out nb]; exact e)
    exact ⟨more, by rw [onn_out nb]; exact q⟩
/-- what a call that was told of the cells left, told without them -/
theorem un_off (u : Un fs [] (onn cs H) H' h h') (nd : (cs.map (·.1)).Nodup) (n : ∀ p ∈ cs, H p.1 = none) (at_ : ∀ p ∈ cs, h.get? p.1 = some p.2) (ok : HOk P w H' h') (l : Lay cs H') : Un fs [] H (off cs H') h h' := by
  have out : ∀ {d : Addr} {o : HO}, H d = some o → d ∉ cs.map (·.1) := fun {d o} q z => by
    obtain ⟨p, hp, rfl⟩ := List.mem_map.mp z
    rw [n p hp] at q
    cases q
  refine ⟨fun b o e nb hb hx => ?_, fun b o e nb hb hx => ?_, fun b o e nb hx => ?_, u.there, fun b xs e => ?_, fun b o v e => ?_, fun b ps e => ?_⟩
  · by_cases hc : b ∈ cs.map (·.1)
    · obtain ⟨p, hp, rfl⟩ := List.mem_map.mp hc
      rw [lay_at ok l p hp, ← e, at_ p hp]
    · exact u.keep b o e (by rw [onn_out hc]; exact nb) hb hx
  · by_cases hc : b ∈ cs.map (·.1)
    · obtain ⟨p, hp, rfl⟩ := List.mem_map.mp hc
      exact ⟨o.slots, by rw [lay_at ok l p hp, ← at_ p hp, e]⟩
    · exact u.slot b o e (by rw [onn_out hc]; exact nb) hb hx
  · by_cases hc : b ∈ cs.map (·.1)
    · exact off_in hc
    · rw [off_out hc]
      exact u.free b o e (by rw [onn_out hc]; exact nb) hx
  · rw [off_out fun z => by obtain ⟨p, hp, rfl⟩ := List.mem_map.mp z; have := u.tups p.1 xs (by rw [onn_out (out e)]; exact e); rw [l p hp] at this; cases this]
    exact u.tups b xs (by rw [onn_out (out e)]; exact e)
  · rw [off_out fun z => by obtain ⟨p, hp, rfl⟩ := List.mem_map.mp z; have := u.frzs p.1 o v (by rw [onn_out (out e)]; exact e); rw [l p hp] at this; cases this]
    exact u.frzs b o v (by rw [onn_out (out e)]; exact e)
  · obtain ⟨more, q⟩ := u.tbls b ps (by rw [onn_out (out e)]; exact e)
    exact ⟨more, by rw [off_out (lay_not l q fun _ z => nomatch z)]; exact q⟩
end
/-- the closure cl has the names fr, at these cells with these values -/
structure Fits (cl : List (Str × Addr)) (fr : List Str) (cs : Cs) (vals : List V) : Prop where
  len : cs.length = fr.length
  lenV : vals.length = fr.length
  at_ : ∀ (i : Nat) (y : Str) (p : Addr × Obj), fr[i]? = some y → cs[i]? = some p → cl.lookup y = some p.1
  only : ∀ (y : Str) (c : Addr), cl.lookup y = some c → y ∈ fr
  nd : (cs.map (·.1)).Nodup
  val : ∀ (i : Nat) (p : Addr × Obj) (v : V), cs[i]? = some p → vals[i]? = some v → ∃ u, RelV v u ∧ p.2.data = .cell (some u)
theorem nodup_at {α : Type} {l : List α} (nd : l.Nodup) {i j : Nat} {x : α} (a : l[i]? = some x) (b : l[j]? = some x) : i = j := by
  obtain ⟨h1, e1⟩ := List.getElem?_eq_some_iff.mp a
  obtain ⟨h2, e2⟩ := List.getElem?_eq_some_iff.mp b
  exact (List.getElem_inj nd).mp (e1.trans e2.symm)
theorem Fits.mem {cl : List (Str × Addr)} {fr : List Str} {cs : Cs} {vals : List V} (F : Fits cl fr cs vals) {y : Str} {c : Addr} (e : cl.lookup y = some c) : ∃ (i : Nat) (p : Addr × Obj), fr[i]? = some y ∧ cs[i]? = some p ∧ p.1 = c := by
  obtain ⟨i, hi⟩ := List.mem_iff_getElem?.mp (F.only y c e)
  have hl : i < cs.length := by rw [F.len]; exact (List.getElem?_eq_some_iff.mp hi).1
  refine ⟨i, cs[i], hi, List.getElem?_eq_getElem hl, ?_⟩
  have := F.at_ i y cs[i] hi (List.getElem?_eq_getElem hl)
  rw [e] at this
  exact (Option.some.inj this).symm
theorem Fits.cells {P : Program} {w : World} {cl : List (Str × Addr)} {fr : List Str} {cs : Cs} {vals : List V} {H : Hp} {h : Heap} (F : Fits cl fr cs vals) (ok : HOk P w H h) (l : Lay cs H) : CellsAt cl fr (vals.map some) h (off cs H) := by
  have cell : ∀ (i : Nat) (p : Addr × Obj), cs[i]? = some p → ∃ v u, vals[i]? = some v ∧ RelV v u ∧ h.IsCell p.1 (some u) := fun i p hp => by
    have hl : i < vals.length := by rw [F.lenV, ← F.len]; exact (List.getElem?_eq_some_iff.mp hp).1
    obtain ⟨u, r, d⟩ := F.val i p vals[i] hp (List.getElem?_eq_getElem hl)
    exact ⟨vals[i], u, List.getElem?_eq_getElem hl, r, p.2, lay_at ok l p (List.mem_of_getElem? hp), d⟩
  refine ⟨by rw [List.length_map]; exact F.lenV, fun y c e => ?_, fun x y c e1 e2 => ?_, fun i y e => ?_⟩
  · obtain ⟨i, p, _, hp, rfl⟩ := F.mem e
    obtain ⟨v, u, _, _, z⟩ := cell i p hp
    exact ⟨off_in (List.mem_map.mpr ⟨p, List.mem_of_getElem? hp, rfl⟩), _, z⟩
  · obtain ⟨i, p, hi, hp, rfl⟩ := F.mem e1
    obtain ⟨j, q, hj, hq, e⟩ := F.mem e2
    have : i = j := nodup_at F.nd (x := p.1) (by rw [List.getElem?_map, hp] <;> rfl) (by rw [List.getElem?_map, hq, ← e] <;> rfl)
    rw [this, hj] at hi
    exact (Option.some.inj hi).symm
  · have hl : i < cs.length := by rw [F.len]; exact (List.getElem?_eq_some_iff.mp e).1
    obtain ⟨v, u, hv, r, z⟩ := cell i cs[i] (List.getElem?_eq_getElem hl)
    refine ⟨cs[i].1, F.at_ i y cs[i] e (List.getElem?_eq_getElem hl), fun v' hv' => ?_⟩
    rw [List.getElem?_map, hv] at hv'
    cases hv'
    exact ⟨u, r, z⟩
/-- the function at f may be called wherever G holds of the heap -/
structure CallV (P : Program) (w : World) (K : PySem.W.Frag) (mg : Str → Option Value) (base : Heap) (CX : CXT) (k : Nat) (f : Addr) (G : Hp → Prop) (sp : Sp) : Prop where
  fn : ∀ {H : Hp} {h : Heap}, HOk P w H h → G H → PySem.W.FnAt f h
  run : ∀ (A : Around) (outer : List Env) (s : Shared) (H : Hp) (us : List Value) (vs : List V) (Q : VK) (E : XK), Room k A → Env0 P w K mg base A outer s H → G H → Vals vs us → sp vs H Q E → codeAny (model P w) A (.call (.ref f) ⟨us, []⟩) (CR CX outer P w H s Q E) s
theorem CallV.mono {P : Program} {w : World} {K : PySem.W.Frag} {mg : Str → Option Value} {base : Heap} {CX : CXT} {j k : Nat} {f : Addr} {G : Hp → Prop} {sp : Sp} (c : CallV P w K mg base CX j f G sp) (h : j ≤ k) : CallV P w K mg base CX k f G sp :=
  ⟨c.fn, fun A outer s H us vs Q E hr => c.run A outer s H us vs Q E (hr.mono h)⟩
theorem CallV.imp {P : Program} {w : World} {K : PySem.W.Frag} {mg : Str → Option Value} {base : Heap} {CX : CXT} {k : Nat} {f : Addr} {G G' : Hp → Prop} {sp sp' : Sp} (c : CallV P w K mg base CX k f G sp) (hG : ∀ H, G' H → G H) (h : ∀ vs H Q E, G' H → sp' vs H Q E → sp vs H Q E) : CallV P w K mg base CX k f G' sp' :=
  ⟨fun ok g => c.fn ok (hG _ g), fun A outer s H us vs Q E hr e0 g r q => c.run A outer s H us vs Q E hr e0 (hG _ g) r (h _ _ _ _ g q)⟩
/-- an exception that leaves a call, told without the cells and with them -/
def CXOn (P : Program) (w : World) (CX : CXT) : Prop := ∀ (cs : Cs) (outer : List Env) (s : Shared) (H : Hp) (E : XK) (e : Value) (s' : Shared), (cs.map (·.1)).Nodup → Lay cs H → HOk P w H s.heap → (∀ b ∈ frs outer, H b = none) → CX outer (off cs H) s (fun cls d H' => E cls d (onn cs H')) e s' → CX outer H s E e s'
theorem cxon_0 {P : Program} {w : World} : CXOn P w L2.CX0 := fun _ _ _ _ _ _ _ _ _ _ _ z => z
section
variable {P : Program} {w : World} {K : PySem.W.Frag} {mg : Str → Option Value} {base : Heap} {CX : CXT} {A : Around} {outer : List Env} {s s' : Shared} {H : Hp} {cs : Cs} {Q : VK} {u : Value}
theorem env0_off (e0 : Env0 P w K mg base A outer s H) (l : Lay cs H) : Env0 P w K mg base A outer s (off cs H) :=
  have n : ∀ {b : Addr}, H b = none → off cs H b = none := fun {b} h => by rw [off_out (lay_none l h)]; exact h
  ⟨e0.frames, e0.mod, fun b o e => ⟨(e0.bs b o e).1, n (e0.bs b o e).2⟩, e0.bsz, e0.funs, fun b hb => n (e0.frf b hb), hok_off e0.hok l, e0.bare⟩
theorem ce_on (e0 : Env0 P w K mg base A outer s H) (nd : (cs.map (·.1)).Nodup) (l : Lay cs H) (h : CE outer P w (off cs H) s (fun v H' => (∀ p ∈ cs, H' p.1 = none) → Q v (onn cs H')) u s') : CE outer P w H s Q u s' := by
  obtain ⟨v, H', os, bare, un, ok, r, q⟩ := h
  have kept : ∀ p ∈ cs, s'.heap.get? p.1 = some p.2 ∧ H' p.1 = none := fun p hp => by
    have e := lay_at e0.hok l p hp
    have n : off cs H p.1 = none := off_in (List.mem_map.mpr ⟨p, hp, rfl⟩)
    refine ⟨un.keep p.1 p.2 e n (fun z => ?_) List.not_mem_nil, un.free p.1 p.2 e n List.not_mem_nil⟩
    have := e0.frf p.1 z
    rw [l p hp] at this
    cases this
  exact ⟨v, onn cs H', os, bare, un_on un l, hok_on ok nd (fun p hp => (kept p hp).2) fun p hp => (kept p hp).1, r, q fun p hp => (kept p hp).2⟩
theorem cr_on (hx : CXOn P w CX) (e0 : Env0 P w K mg base A outer s H) (nd : (cs.map (·.1)).Nodup) (l : Lay cs H) {r : Result} {E : XK} (h : CR CX outer P w (off cs H) s (fun v H' => (∀ p ∈ cs, H' p.1 = none) → Q v (onn cs H')) (fun cls d H' => E cls d (onn cs H')) r s') : CR CX outer P w H s Q E r s' := by
  cases r with
  | error e => exact hx cs outer s H E e s' nd l e0.hok e0.frf h
  | ok fl =>
    cases fl with
    | ret u => exact ce_on e0 nd l h
    | next => exact False.elim h
    | brk => exact False.elim h
    | cont => exact False.elim h
/-- a nested def as a value -/
theorem callV_nok {k : Nat} {f : Addr} {F : NF} {ps fr : List Str} {sp : List (Option V) → Sp} {vals : List V} (o : NOk P w K mg base CX k f F ps fr sp) (hx : CXOn P w CX) (ft : Fits F.cl fr cs vals) :
    CallV P w K mg base CX k f (fun H => H f = some (FnO f F) ∧ H F.c = some (CodeO F.c F.qual) ∧ Lay cs H) (fun vs H Q E => sp (vals.map some) vs (off cs H) (fun v H' => (∀ p ∈ cs, H' p.1 = none) → Q v (onn cs H')) (fun cls d H' => E cls d (onn cs H'))) := by
  have cellv : ∀ p ∈ cs, ∃ u, p.2.data = .cell (some u) := fun p hp => by
    obtain ⟨i, hi⟩ := List.mem_iff_getElem?.mp hp
    have hl : i < vals.length := by rw [ft.lenV, ← ft.len]; exact (List.getElem?_eq_some_iff.mp hi).1
    obtain ⟨u, _, d⟩ := ft.val i p vals[i] hi (List.getElem?_eq_getElem hl)
    exact ⟨u, d⟩
  refine ⟨fun ok g => ?_, fun A outer s H us vs Q E hr e0 ⟨g1, g2, l⟩ r q => ?_⟩
  · obtain ⟨od, sl, doc, pm, ctv, ho⟩ := fnO_at ok g.1
    exact ⟨_, od, _, sl, ho⟩
  · have n1 : f ∉ cs.map (·.1) := fun z => by
      obtain ⟨p, hp, e⟩ := List.mem_map.mp z
      obtain ⟨od, sl, doc, pm, ctv, ho⟩ := fnO_at e0.hok g1
      obtain ⟨u, d⟩ := cellv p hp
      have := lay_at e0.hok l p hp
      rw [e, ho] at this
      rw [← Option.some.inj this] at d
      cases d
    have n2 : F.c ∉ cs.map (·.1) := fun z => by
      obtain ⟨p, hp, e⟩ := List.mem_map.mp z
      obtain ⟨oc, vs2, t, h1, h2, _⟩ := (e0.hok F.c _ g2).1
      obtain ⟨u, d⟩ := cellv p hp
      have := lay_at e0.hok l p hp
      rw [e, h1] at this
      rw [← Option.some.inj this, h2] at d
      cases d
    refine codeAny_mono (o.run A outer s (off cs H) us vs _ _ _ hr (env0_off e0 l) (by rw [off_out n1]; exact g1) (by rw [off_out n2]; exact g2) (ft.cells e0.hok l) r q) fun r s' h => cr_on hx e0 ft.nd l h
end
end FV
set_option Elab.async false
set_option linter.all false
set_option maxRecDepth 100000
set_option maxHeartbeats 6000000
namespace FV
open PySem PySem.Spec PyProof.Rows L2 LamX NdefX
/-- a lambda with the words of F (whose own body is not looked at) and the body b -/
def LamO (f : Addr) (F : NF) (b : Expr) : HO := .ext fun h => ∃ pm ctv, h.get? f = some (PySem.W.kla_obj "<lambda>" F.qual F.params b F.scope F.cl pm F.c ctv)
section
variable {P : Program} {w : World} {K : PySem.W.Frag} {mg : Str → Option Value} {base : Heap} {CX : CXT} {F : NF} {b : Expr} {f : Addr} {k : Nat} {N ps fr : List Str} {sp : List (Option V) → Sp}
structure LOk (P : Program) (w : World) (K : PySem.W.Frag) (mg : Str → Option Value) (base : Heap) (CX : CXT) (k : Nat) (f : Addr) (F : NF) (b : Expr) (fr : List Str) (sp : List (Option V) → Sp) : Prop where
  run : ∀ (A : Around) (outer : List Env) (s : Shared) (H : Hp) (us : List Value) (vs : List V) (ws : List (Option V)) (Q : VK) (E : XK), Room k A → Env0 P w K mg base A outer s H → H f = some (LamO f F b) → H F.c = some (CodeO F.c F.qual) →
    CellsAt F.cl fr ws s.heap H → Vals vs us → sp ws vs H Q E → codeAny (model P w) A (.call (.ref f) ⟨us, []⟩) (CR CX outer P w H s Q E) s
/-- a lambda by its body -/
theorem lok_of (S : NScope N ps fr F.scope) (bind : ∀ (pm cv ctv : Value) (us : List Value), us.length = ps.length → bindArgs (PySem.W.kla_fn "<lambda>" F.qual F.params b F.scope F.cl pm cv ctv) ⟨us, []⟩ = pure (ps.zip us)) (len : ∀ ws vs H Q E, sp ws vs H Q E → vs.length = ps.length)
    (body : ∀ (A : Around) (outer : List Env) (s : Shared) (H : Hp) (vs : List V) (ws : List (Option V)) (Q : VK) (E : XK), Room k (A.deeper (envF F f s.heap.objs.size)) → ws.length = fr.length → sp ws vs H Q E →
      ∃ te, PE (ncx CX P w K mg base N F f A outer s H E) b te ∧ te (startF N vs ws) H Q) : LOk P w K mg base CX (k + 1) f F b fr sp := by
  refine ⟨fun A outer s H us vs ws Q E hr e0 hf hc C r told => ?_⟩
  have few := len _ _ _ _ _ told
  obtain ⟨pm, ctv, at_⟩ := (e0.hok f _ hf).1
  obtain ⟨oc, parts, t, c1, c2, c3⟩ := (e0.hok F.c _ hc).1
  have lim : s.heap.NoLimit := e0.mod.nolimit.keeps fun d o e => (e0.bs d o e).1
  obtain ⟨te, rule, q⟩ := body A outer s H vs ws Q E (hr.deeper _) C.len told
  refine PySem.W.kla_callFunE hr.depth at_ rfl S.co S.gen rfl ⟨F.c, oc, parts, t, rfl, c1, c2, c3⟩ ?_
  rw [bind pm _ ctv us (by rw [← r.length]; exact few)]
  refine wpAny_pure (wpAny_newFunctionEnv S.nocell (fun ⟨n, _⟩ m => S.par n (List.of_mem_zip m).1) (fun hZ ns sb => ⟨lim.fresh _ sb, PySem.W.kla_codeExpr ?_⟩) S.kind)
  have I : Inv (ncx CX P w K mg base N F f A outer s H E) [] (startF N vs ws) H { s with heap := hZ, toks := s.toks + (ps.zip us).length } :=
    inv_startN S hr.hd e0 few r C ns fun d o e => sb.extBut d o (Nat.ne_of_lt (Heap.lt_size e)) (Heap.get?_push_of_some _ e)
  exact wpAny_mono (rule.run [] _ _ H Q I q) (fun _ _ z => let ⟨v, H', J, rv, qv⟩ := z; ⟨v, H', J.os, J.bare, J.base, J.hok, rv, qv⟩) fun _ _ z => z
end
/-- x(e, ..), x a name of the running frame that holds a function -/
def tCallV (P : Program) (w : World) (K : PySem.W.Frag) (mg : Str → Option Value) (base : Heap) (CX : CXT) (k i : Nat) (E : XK) (t : TA) : TE := fun σ H Q => ∃ f G sp, σ[i]? = some (some (.ref f)) ∧ CallV P w K mg base CX k f G sp ∧ G H ∧ t σ H fun vs H1 => G H1 ∧ sp vs H1 Q E
section
variable {X : Cx} {CX : CXT} {k i : Nat} {x : Str} {E : XK} {t : TA} {e : Expr} {es : List Expr} {p pos : Pos}
theorem run_v {f : Addr} {G : Hp → Prop} {sp : Sp} {pins : List (Addr × Obj)} {σ : L2.St} {H : Hp} {s : Shared} {Q : VK} {us : List Value} {vs : List V} (c : CallV X.prog X.w X.K X.mg X.base CX k f G sp) (hr : Room k X.A) (hx : Passes CX X E) (I : Inv X pins σ H s) (g : G H) (r : Vals vs us) (q : sp vs H Q E) :
    wpAny (model X.prog X.w) X.A (call (.ref f) us) (EP X pins σ Q) X.xe s :=
  wpAny_call (codeAny_mono (c.run X.A X.stack s H us vs Q E hr I.env0 g r q) fun r s' h => match r, h with
    | .error e, h => hx pins σ H s e s' I h
    | .ok (.ret _), h => I.after h
    | .ok .next, h => h.elim
    | .ok .brk, h => h.elim
    | .ok .cont, h => h.elim)
theorem pe_callV (hr : Room k X.A) (hx : Passes CX X E) (hN : X.N[i]? = some x) (hv : Vis X.env.scope x) (ha : PA X (e :: es) t) (hd : (x == ("__debug__" : Str)) = false := by decide) (hcd : (x == ("__classdict__" : Str)) = false := by decide)
    (he : starEach (e :: es) X.env = (false, eval e X.env) :: starEach es X.env := by rfl) (hpl : (backTo pos (starEach es X.env)).any (·.1) = false := by rfl) : PE X (.Call (.Name x p) (e :: es) [] pos) (tCallV X.prog X.w X.K X.mg X.base CX k i E t) := by
  refine ⟨fun pins s σ H Q I ⟨f, G, sp, hs, c, g, ht⟩ => ?_⟩
  refine wpAny_Call_Name_kw (thn ((pe_var (pos := p) hN hv hd hcd).run pins s σ H (fun v H1 => v = .ref f ∧ H1 = H) I ⟨_, hs, rfl, rfl⟩) fun u s1 ⟨v, H1, I1, r1, ev, eH⟩ => ?_)
  subst ev
  subst eH
  cases (show u = Value.ref f from r1)
  exact PySem.W.callWith_F (first := []) (c.fn I1.hok g) (thn (ha.run pos pins s1 σ _ _ I1 ht) fun us s2 ⟨vs, H2, I2, r, g2, q⟩ => ⟨c.fn I2.hok g2, run_v c hr hx I2 g2 r q⟩) he hpl
end
section
variable {X : Cx} {σ : L2.St} {H : Hp} {s : Shared} {pins : List (Addr × Obj)} {cs : Cs}
theorem env0_on (I : Inv X pins σ H s) (nd : (cs.map (·.1)).Nodup) (n : ∀ p ∈ cs, H p.1 = none) (at_ : ∀ p ∈ cs, s.heap.get? p.1 = some p.2) (young : ∀ p ∈ cs, X.s_0.heap.objs.size ≤ p.1 ∧ p.1 ≠ X.env.locals) : Env0 X.prog X.w X.K X.mg X.base X.A X.stack s (onn cs H) := by
  have e := I.env0
  have out : ∀ {b : Addr}, b < X.s_0.heap.objs.size → b ∉ cs.map (·.1) := fun {b} lt z => by
    obtain ⟨p, hp, rfl⟩ := List.mem_map.mp z
    exact absurd lt (Nat.not_lt.mpr (young p hp).1)
  refine ⟨e.frames, e.mod, fun b o eb => ⟨(e.bs b o eb).1, ?_⟩, e.bsz, e.funs, fun b hb => ?_, hok_on I.hok nd n at_, e.bare⟩
  · rw [onn_out (out (Nat.lt_of_lt_of_le (Heap.lt_size eb) I.ok.bsz))]
    exact (e.bs b o eb).2
  · have nb : b ∉ cs.map (·.1) := by
      rcases List.mem_cons.mp (I.stkSub b hb) with z | z
      · intro y
        obtain ⟨p, hp, e2⟩ := List.mem_map.mp y
        exact (young p hp).2 (e2.trans z)
      · obtain ⟨_, o, ho, _⟩ := I.ok.funs.mem z
        exact out (Heap.lt_size ho)
    rw [onn_out nb]
    exact e.frf b hb
/-- the running frame's cells, as they stand -/
theorem fits_of {cl : List (Str × Addr)} {fr : List Str} {js : List Nat} {vals : List V} (I : Inv X pins σ H s) (cp : Caps X cl fr js) (only : ∀ (y : Str) (c : Addr), cl.lookup y = some c → y ∈ fr) (nd : fr.Nodup) (hv : js.map (fun j => σ[j]?) = vals.map fun v => some (some v)) :
    ∃ cs, Fits cl fr cs vals ∧ (∀ p ∈ cs, H p.1 = none ∧ s.heap.get? p.1 = some p.2 ∧ ∃ y ∈ fr, X.env.cells.lookup y = some p.1) := by
  have C := cells_of I cp
  have lenJ : js.length = fr.length := by
    have := congrArg List.length cp.at_
    rw [List.length_map, List.length_map] at this
    exact this
  have lenV : vals.length = fr.length := by
    have := congrArg List.length hv
    rw [List.length_map, List.length_map] at this
    omega
  have each : ∀ i : Fin fr.length, ∃ p : Addr × Obj, cl.lookup (fr[i.1]'i.2) = some p.1 ∧ s.heap.get? p.1 = some p.2 ∧ ∃ u, RelV (vals[i.1]'(Nat.lt_of_lt_of_eq i.2 lenV.symm)) u ∧ p.2.data = .cell (some u) := fun ⟨i, hi⟩ => by
    obtain ⟨c, hc, at_⟩ := C.has i _ (List.getElem?_eq_getElem hi)
    have hj : i < js.length := Nat.lt_of_lt_of_eq hi lenJ.symm
    have hV : i < vals.length := Nat.lt_of_lt_of_eq hi lenV.symm
    have e : σ[js[i]]? = some (some vals[i]) := by
      have := congrArg (fun l => l[i]?) hv
      rw [List.getElem?_map, List.getElem?_map, List.getElem?_eq_getElem hj, List.getElem?_eq_getElem hV] at this
      exact Option.some.inj this
    obtain ⟨u, r, o, ho, d⟩ := at_ vals[i] (by rw [List.getElem?_map, List.getElem?_eq_getElem hj]; exact congrArg some (slotAt_of e))
    exact ⟨(c, o), hc, ho, u, r, d⟩
  obtain ⟨g, hg⟩ := Classical.axiomOfChoice each
  have at_ : ∀ (i : Nat) (p : Addr × Obj), (List.ofFn g)[i]? = some p → ∃ hi : i < fr.length, p = g ⟨i, hi⟩ := fun i p h => by
    obtain ⟨h1, h2⟩ := List.getElem?_eq_some_iff.mp h
    have hi : i < fr.length := by rw [List.length_ofFn] at h1; exact h1
    exact ⟨hi, by rw [← h2, List.getElem_ofFn]⟩
  refine ⟨List.ofFn g, ⟨List.length_ofFn, lenV, fun i y p hy hp => ?_, only, ?_, fun i p v hp hv2 => ?_⟩, fun p hp => ?_⟩
  · obtain ⟨hi, rfl⟩ := at_ i p hp
    have := (hg ⟨i, hi⟩).1
    rw [List.getElem?_eq_getElem hi] at hy
    rw [← Option.some.inj hy]
    exact this
  · rw [List.map_ofFn]
    refine List.pairwise_iff_getElem.mpr fun i j h1 h2 lt e => ?_
    rw [List.length_ofFn] at h1 h2
    rw [List.getElem_ofFn, List.getElem_ofFn] at e
    have e2 : (g ⟨i, h1⟩).1 = (g ⟨j, h2⟩).1 := e
    have e3 := C.inj _ _ _ (hg ⟨i, h1⟩).1 (e2 ▸ (hg ⟨j, h2⟩).1)
    have : i = j := nodup_at nd (List.getElem?_eq_getElem h1) (by rw [List.getElem?_eq_getElem h2]; exact congrArg some e3.symm)
    omega
  · obtain ⟨hi, rfl⟩ := at_ i p hp
    have hV : i < vals.length := Nat.lt_of_lt_of_eq hi lenV.symm
    rw [List.getElem?_eq_getElem hV] at hv2
    rw [← Option.some.inj hv2]
    exact (hg ⟨i, hi⟩).2.2
  · obtain ⟨i, hi⟩ := List.mem_iff_getElem?.mp hp
    obtain ⟨hj, rfl⟩ := at_ i p hi
    exact ⟨(C.all _ _ (hg ⟨i, hj⟩).1).1, (hg ⟨i, hj⟩).2.1, _, List.getElem_mem hj, cp.sub _ _ (hg ⟨i, hj⟩).1⟩
end
/-- f(e, ..) of a def of the module that is told of the running frame's cells -/
def tCallC (cl : List (Str × Addr)) (fr : List Str) (js : List Nat) (sp : Sp) (t : TA) : TE := fun σ H Q => t σ H fun vs H1 => ∃ vals : List V, js.map (fun j => σ[j]?) = vals.map (fun v => some (some v)) ∧
  ∀ cs, Fits cl fr cs vals → (∀ p ∈ cs, H1 p.1 = none) → sp vs (onn cs H1) (fun v H' => Lay cs H' ∧ Q v (off cs H')) E0
section
variable {X : Cx} {k : Nat} {f : Addr} {fd : FuncData} {ps : List Str} {sp : Sp} {x : Str} {p pos : Pos} {e : Expr} {es : List Expr} {t : TA} {cl : List (Str × Addr)} {fr : List Str} {js : List Nat}
theorem pe_callC (F : FnOk X.prog X.w X.K X.mg X.base CX0 k f fd ps sp) (hr : Room k X.A) (hg : Gl X x) (hm : X.mg x = some (.ref f)) (hk : PySem.W.keepIn X.K (.ref f) = true) (hb : Binds X.K fd ps [])
    (cp : X.Ok → Caps X cl fr js) (only : ∀ (y : Str) (c : Addr), cl.lookup y = some c → y ∈ fr) (nd : fr.Nodup) (own : ∀ y ∈ fr, X.fn y = true) (ha : PA X (e :: es) t) (hdb : (x == ("__debug__" : Str)) = false := by decide)
    (he : starEach (e :: es) X.env = (false, eval e X.env) :: starEach es X.env := by rfl) (hpl : (backTo pos (starEach es X.env)).any (·.1) = false := by rfl) : PE X (.Call (.Name x p) (e :: es) [] pos) (tCallC cl fr js sp t) := by
  refine ⟨fun pins s σ H Q I h => wpAny_Call_Name_kw (ld_glob I hg hm (PySem.W.callWith_K (h₀ := X.base) I.ok.mod.kin hk (thn (ha.run pos pins s σ H _ I h) fun us s1 ⟨vs, H1, I1, r, vals, hv, q⟩ => ⟨I1.kIn, ?_⟩) he hpl) hdb)⟩
  obtain ⟨cs, ft, hcs⟩ := fits_of I1 (cp I1.ok) only nd hv
  have none_ : ∀ p ∈ cs, H1 p.1 = none := fun p hp => (hcs p hp).1
  have at_ : ∀ p ∈ cs, s1.heap.get? p.1 = some p.2 := fun p hp => (hcs p hp).2.1
  have e0 := env0_on I1 ft.nd none_ at_ fun p hp => let ⟨y, hy, e⟩ := (hcs p hp).2.2; ⟨I1.ok.cab y p.1 (own y hy) e, I1.cne y p.1 e⟩
  have q := q cs ft none_
  have hl : us.length = ps.length := by rw [← r.length]; exact F.len _ _ _ _ q
  have hb2 := hb s1 us I1.kIn (by rw [List.append_nil]; exact hl)
  rw [List.append_nil] at hb2
  refine wpAny_call (codeAny_mono (F.run X.A X.stack s1 (onn cs H1) ⟨us, []⟩ us vs _ E0 hr e0 hb2 r q) fun r s' h => ?_)
  exact match r, h with
    | .error _, h => (show False from h).elim
    | .ok (.ret _), h => I1.after (let ⟨v, H', os, bare, un, ok, rv, l, qv⟩ := h; ⟨v, off cs H', os, bare, un_off un ft.nd none_ at_ ok l, hok_off ok l, rv, qv⟩)
    | .ok .next, h => h.elim
    | .ok .brk, h => h.elim
    | .ok .cont, h => h.elim
end
end FV
set_option Elab.async false
set_option linter.all false
set_option maxRecDepth 100000
set_option maxHeartbeats 6000000
namespace FV
open PySem PySem.Spec PyProof.Rows L2 LamX NdefX
/-- the words of a lambda that is made in X -/
abbrev lamF (X : Cx) (params : Arguments) (scope : Scope) (c : Addr) : NF := ⟨"<lambda>", X.env.qual ++ "<lambda>", params, [], scope, cloFrom X.env.cells scope.names [], c⟩
/-- nothing that was tracked is lost, but for tables of code objects, which grow -/
def Grows (T : List (Addr × Str)) (H H1 : Hp) : Prop := ExtN H H1 ∧ Tabs T H1 ∧ ∀ d, H1 d = none → H d = none
def tLamV (X : Cx) (T : List (Addr × Str)) (params : Arguments) (body : Expr) (scope : Scope) : TE := fun σ H Q => Tabs T H ∧ ∀ (f c : Addr) (H1 : Hp), H f = none → Grows T H H1 → H1 f = some (LamO f (lamF X params scope c) body) → H1 c = some (CodeO c (X.env.qual ++ "<lambda>")) → Q (.ref f) H1
section
variable {X : Cx} {T : List (Addr × Str)} {c P : Addr} {params : Arguments} {body : Expr} {scope : Scope} {pos : Pos}
theorem lamO_ok {P : Program} {w : World} {H : Hp} {h : Heap} {f : Addr} {F : NF} {b : Expr} {pm ctv : Value} (e : h.get? f = some (PySem.W.kla_obj "<lambda>" F.qual F.params b F.scope F.cl pm F.c ctv)) : ObjOk P w H h f (LamO f F b) :=
  ⟨⟨pm, ctv, e⟩, ⟨_, e⟩, fun _ _ ⟨pm, ctv, e⟩ k => ⟨pm, ctv, k _ e⟩⟩
theorem pe_lamV (TB : TabB X.base X.mg c P) (code : X.env.code = .ref c) (mem : (P, X.env.qual ++ "<lambda>") ∈ T) (uniq : ∀ p ∈ T, p.1 = P → p.2 = X.env.qual ++ "<lambda>") (plain : defaultsOf params X.env = ([], []))
    (taken : X.Ok → ∀ y ∈ scope.names, y.2 = .free → ∃ c, X.env.cells.lookup y.1 = some c) : PE X (.Lambda params body scope pos) (tLamV X T params body scope) := by
  refine ⟨fun pins s σ H Q I ⟨tabs, told⟩ => PySem.W.kla_eval plain ?_⟩
  obtain ⟨ps, atP, three, known⟩ := tabs _ mem
  have clo := closure_ok (taken I.ok)
  have bP : s.heap.BuiltinsAt X.mg P := TB.bm.keeps I.bk
  have tabO : s.heap.get? P = some (PySem.W.tabObj ps) := I.hok P _ atP
  cases old : codeAmong pos ps.toList with
  | some cv =>
    obtain ⟨c', rfl, isCode⟩ := known pos cv old
    refine PySem.W.kla_makeFunctionHit (mg := X.mg) (c := c) (P := P) (ps := ps) clo I.ok.glob (I.mod.glob.keeps I.bk) code (TB.code.keeps I.bk) tabO three old bP fun ctv h' tk keep size => ?_
    have free : H h'.objs.size = none := I.hok.fresh size
    have J : Inv X pins σ H { s with heap := h', toks := tk } := I.kept (t' := tk) keep
    have J2 := J.laid (t' := tk) (h' := h'.push (PySem.W.kla_obj "<lambda>" (X.env.qual ++ "<lambda>") params body scope (cloFrom X.env.cells scope.names []) ((X.mg "__name__").getD .none) c' ctv)) (fun b u e => Heap.get?_push_of_some _ e) (Nat.le_refl _) (lamO_ok (F := lamF X params scope c') (b := body) (Heap.get?_push_size _ rfl))
    have ext : ∀ b o, H b = some o → upd H h'.objs.size (LamO h'.objs.size (lamF X params scope c') body) b = some o := fun b o e => by rw [upd_ne (ne_of_none e free)]; exact e
    refine ⟨.ref h'.objs.size, _, J2, rfl, told _ c' _ free ⟨ExtN.of ext, tabs.ext ext, fun d n => ?_⟩ upd_same (ext _ _ isCode)⟩
    by_cases z : d = h'.objs.size
    · rw [z]; exact free
    · rw [upd_ne z] at n; exact n
  | none =>
    refine PySem.W.kla_makeFunction (mg := X.mg) (c := c) (P := P) (ps := ps) clo I.ok.glob (I.mod.glob.keeps I.bk) code (TB.code.keeps I.bk) tabO three old TB.gP bP fun c' ctv h' tk but young below isRec grown => ?_
    obtain ⟨_, oc, parts, t, same, c1, c2, c3⟩ := isRec
    cases same
    have newC : H c' = none := I.hok.fresh young
    have J := inv_table (t' := tk) (more := #[rawInt pos.line, rawInt pos.col, .ref c']) (h' := h') I atP (fun b o n e => but b o n e) grown young ⟨oc, parts, t, c1, c2, c3⟩
    have lt : s.heap.objs.size < h'.objs.size := Nat.lt_of_le_of_lt young below
    have ltP : P < h'.objs.size := Nat.lt_trans (Heap.lt_size tabO) lt
    have free0 : H h'.objs.size = none := I.hok.fresh (Nat.le_of_lt lt)
    have J2 := J.laid (t' := tk) (h' := h'.push (PySem.W.kla_obj "<lambda>" (X.env.qual ++ "<lambda>") params body scope (cloFrom X.env.cells scope.names []) ((X.mg "__name__").getD .none) c' ctv)) (fun b u e => Heap.get?_push_of_some _ e) (Nat.le_refl _) (lamO_ok (F := lamF X params scope c') (b := body) (Heap.get?_push_size _ rfl))
    have atC : ∀ (o : HO), upd (upd (upd H P (.tbl (ps ++ #[rawInt pos.line, rawInt pos.col, .ref c']))) c' (CodeO c' (X.env.qual ++ "<lambda>"))) h'.objs.size o c' = some (CodeO c' (X.env.qual ++ "<lambda>")) := fun o => by rw [upd_ne (Nat.ne_of_lt below), upd_same]
    have atP2 : ∀ (o : HO), upd (upd (upd H P (.tbl (ps ++ #[rawInt pos.line, rawInt pos.col, .ref c']))) c' (CodeO c' (X.env.qual ++ "<lambda>"))) h'.objs.size o P = some (.tbl (ps ++ #[rawInt pos.line, rawInt pos.col, .ref c'])) := fun o => by rw [upd_ne (Nat.ne_of_lt ltP), upd_ne (ne_of_none atP newC), upd_same]
    have rest : ∀ (o : HO) (b : Addr) (u : HO), b ≠ P → H b = some u → upd (upd (upd H P (.tbl (ps ++ #[rawInt pos.line, rawInt pos.col, .ref c']))) c' (CodeO c' (X.env.qual ++ "<lambda>"))) h'.objs.size o b = some u := fun o b u n e => by
      rw [upd_ne (ne_of_none e free0), upd_ne (ne_of_none e newC), upd_ne n]
      exact e
    have ext : ∀ (o : HO), ExtN H (upd (upd (upd H P (.tbl (ps ++ #[rawInt pos.line, rawInt pos.col, .ref c']))) c' (CodeO c' (X.env.qual ++ "<lambda>"))) h'.objs.size o) := fun o b u e n => rest o b u (fun z => by rw [z, atP] at e; exact n ps (Option.some.inj e).symm) e
    refine ⟨.ref h'.objs.size, _, J2, rfl, told _ c' _ free0 ⟨ext _, fun p hp => ?_, fun d n => ?_⟩ upd_same (atC _)⟩
    · by_cases hb : p.1 = P
      · refine ⟨_, by rw [hb]; exact atP2 _, by rw [Array.toList_append]; exact PySem.TriplesOk_snoc _ _ _ _ three, fun p' cv hcv => ?_⟩
        rw [Array.toList_append] at hcv
        rw [uniq p hp hb]
        rcases among_app _ three hcv with z | z
        · obtain ⟨d, e1, e2⟩ := known p' cv z
          exact ⟨d, e1, ext _ _ _ e2 codeO_ne⟩
        · exact ⟨c', z, atC _⟩
      · obtain ⟨qs, a1, a2, a3⟩ := tabs p hp
        refine ⟨qs, rest _ _ _ hb a1, a2, fun p' cv hcv => ?_⟩
        obtain ⟨d, e1, e2⟩ := a3 p' cv hcv
        exact ⟨d, e1, ext _ _ _ e2 codeO_ne⟩
    · have n1 : d ≠ h'.objs.size := fun z => by rw [z, upd_same] at n; cases n
      rw [upd_ne n1] at n
      have n2 : d ≠ c' := fun z => by rw [z, upd_same] at n; cases n
      rw [upd_ne n2] at n
      have n3 : d ≠ P := fun z => by rw [z, upd_same] at n; cases n
      rw [upd_ne n3] at n
      exact n
end
end FV
set_option Elab.async false
set_option linter.all false
set_option maxRecDepth 100000
set_option maxHeartbeats 4000000
namespace WG
open PySem L2 PyProof.Rows
/-- as FnOk, where nothing is being written out around -/
structure FnG (P : Program) (w : World) (K : PySem.W.Frag) (mg : Str → Option Value) (base : Heap) (k : Nat) (f : Addr) (fd : FuncData) (ps : List Str) (sp : Sp) : Prop where
  len : ∀ us H Q E, sp us H Q E → us.length = ps.length
  run : ∀ (A : Around) (outer : List Env) (s : Shared) (H : Hp) (args : Args) (us : List Value) (vs : List V) (Q : VK) (E : XK), Room k A → A.guards = some [] → Env0 P w K mg base A outer s H → BindsTo s fd args (ps.zip us) → Vals vs us →
    sp vs H Q E → codeAny (model P w) A (.call (.ref f) args) (CR CX0 outer P w H s Q E) s
section
variable {P : Program} {w : World} {K : PySem.W.Frag} {mg mb : Str → Option Value} {base : Heap} {k : Nat} {f : Addr} {N ps : List Str} {sp : Sp}
theorem okG {x qual : Str} {st : Stmt} {fd : FuncData} (F : Fun K x qual st f fd) (S : FnScope N ps (defScope st)) (len : ∀ vs H Q E, sp vs H Q E → vs.length = ps.length)
    (hbody : ∀ (cdv : Value) (A : Around) (outer : List Env) (s : Shared) (H : Hp) (vs : List V) (Q : VK) (E : XK), Room k (A.deeper (envOfC qual (defScope st) s.heap.objs.size f cdv)) → A.guards = some [] → sp vs H Q E →
      ∃ t, PSs (cxOf CX0 P w K mg base N qual (defScope st) f cdv A outer s H E).nox (defBody st) t ∧ t { nx := fun _ H' => Q .non H', rt := Q } (start N vs) H) : FnG P w K mg base (k + 1) f fd ps sp := by
  rcases F.ex with ⟨_, _, kV, doc, pm, an, cdv, ct, osl, rfl, lk, hcd⟩
  refine ⟨len, fun A outer s H args us vs Q E hr hg e0 hb r hsp => ?_⟩
  have hl := len _ _ _ _ hsp
  have stays : ∀ b o, base.get? b = some o → s.heap.get? b = some o := fun b o e => (e0.bs b o e).1
  have KX : K.In s.heap := e0.mod.kin.keeps stays
  have kinds : ∀ y ∈ ps.zip us, (defScope st).names.lookup y.1 = some .local ∨ ((defScope st).names.lookup y.1 = some .cell ∧ ((cellsFrom (s.heap.objs.size + 1) (defScope st).names []).lookup y.1).isSome = true) := fun y hy => by
    rcases S.par y.1 (List.of_mem_zip (show (y.1, y.2) ∈ ps.zip us from hy)).1 with q | q
    · exact Or.inl q
    · exact Or.inr (And.intro q (PySem.W.cellsFrom_some _ _ _ (.inl q)))
  refine codeAny_call_function hr.depth (KX _ _ lk) rfl S.co S.gen rfl (PySem.W.codeRec_of KX hcd) (hb _ _ _ _ (wpAny_newFunctionEnv_cells S.kind kinds fun env he s1 x => ?_))
  subst he
  refine ⟨(e0.mod.nolimit.keeps stays).keeps x.toInCall.keep, codeAny_func ?_⟩
  obtain ⟨t, ht, hq⟩ := hbody cdv A outer s H vs Q E (hr.deeper _) hg hsp
  have I := inv_start (CX := CX0) S hr.hd e0 hl (E := E) r x
  refine wpAny_mono (ht.nox.run [] s1 (start N vs) H _ I hq) (fun fl s' hs => ?_) fun e s' hs => hs
  cases fl with
  | next => exact let ⟨_, H', J, q⟩ := hs; ⟨.non, H', J.os, J.bare, J.base, J.hok, rfl, q⟩
  | ret u => exact let ⟨v, _, H', J, rv, q⟩ := hs; ⟨v, H', J.os, J.bare, J.base, J.hok, rv, q⟩
  | brk => exact let ⟨_, _, _, q⟩ := hs; q.elim
  | cont => exact let ⟨_, _, _, q⟩ := hs; q.elim
end
section
variable {X : Cx} {k : Nat} {f : Addr} {fd : FuncData} {ps : List Str} {sp : Sp} {E : XK} {x : Str} {e : Expr} {es : List Expr} {t : TA} {p pos : Pos}
theorem pe_callG (F : FnG X.prog X.w X.K X.mg X.base k f fd ps sp) (hr : Room k X.A) (hgd : X.A.guards = some []) (hm : X.mg x = some (.ref f)) (hk : PySem.W.keepIn X.K (.ref f) = true) (hb : L2.Binds X.K fd ps []) (ha : PA X (e :: es) t) (hg : Gl X x := by rfl)
    (hdb : (x == ("__debug__" : Str)) = false := by decide) (he : starEach (e :: es) X.env = (false, eval e X.env) :: starEach es X.env := by rfl) (hpl : (backTo pos (starEach es X.env)).any (·.1) = false := by rfl) :
    PE X (.Call (.Name x p) (e :: es) [] pos) (tCall sp [] E t) := by
  refine ⟨fun pins s σ H Q I h => ?_⟩
  refine wpAny_Call_Name_kw (ld_glob I hg hm (PySem.W.callWith_K (h₀ := X.base) I.ok.mod.kin hk (thn (ha.run pos pins s σ H _ I h) fun us s1 ⟨vs, H1, I1, r, q⟩ => ⟨I1.kIn, ?_⟩) he hpl) hdb)
  have r2 : Vals (vs ++ []) (us ++ []) := r.append .nil
  have hl : (us ++ []).length = ps.length := by rw [← r2.length]; exact F.len _ _ _ _ q
  refine wpAny_call (codeAny_mono (F.run X.A X.stack s1 H1 ⟨us, []⟩ (us ++ []) (vs ++ []) Q E hr hgd I1.env0 (hb s1 us I1.kIn hl) r2 q) fun r' s' hq => ?_)
  cases r' with
  | error er => exact pass0 pins σ H1 s1 er s' I1 hq
  | ok fl =>
    cases fl with
    | ret u => exact I1.after hq
    | _ => exact (show False from hq).elim
end
end WG
set_option Elab.async false
set_option linter.all false
set_option maxRecDepth 100000
set_option maxHeartbeats 6000000
namespace FV
open PySem PySem.Spec PyProof.Rows L2 LamX NdefX
section
variable {P : Program} {w : World} {cs : Cs} {outer : List Env} {s s' : Shared} {H : Hp} {E : XK} {e : Value}
theorem cx_on (nd : (cs.map (·.1)).Nodup) (l : Lay cs H) (ok : HOk P w H s.heap) (frf : ∀ b ∈ frs outer, H b = none)
    (h : L2.CX P w outer (off cs H) s (fun cls d H' => (∀ p ∈ cs, H' p.1 = none) → E cls d (onn cs H')) e s') : L2.CX P w outer H s E e s' := by
  obtain ⟨a, B, H', cls, d, rfl, fl, okB, ub, na, os, bare, q⟩ := h
  have gone : ∀ p ∈ cs, off cs H p.1 = none := fun p hp => off_in (List.mem_map.mpr ⟨p, hp, rfl⟩)
  have apart : ∀ p ∈ cs, p.1 ∉ frs outer := fun p hp z => by
    have y := frf p.1 z
    rw [l p hp] at y
    cases y
  have at_ : ∀ p ∈ cs, B.get? p.1 = some p.2 := fun p hp => ub.keep p.1 p.2 (lay_at ok l p hp) (gone p hp) (apart p hp)
  have n : ∀ p ∈ cs, H' p.1 = none := fun p hp => ub.free p.1 p.2 (lay_at ok l p hp) (gone p hp)
  have nofl : a ∉ cs.map (·.1) := fun z => by
    obtain ⟨p, hp, e⟩ := List.mem_map.mp z
    have y := at_ p hp
    rw [e, fl.2.1] at y
    cases y
  refine ⟨a, B, onn cs H', cls, d, rfl, fl, hok_on okB nd n at_, ⟨fun b o e nb hb => ?_, ub.slot, fun b o e nb => ?_, ub.there, fun b xs e => ?_, fun b o v e => ?_, fun b ps e => ?_⟩, ?_, os, bare, q n⟩
  · exact ub.keep b o e (by rw [off_out (lay_none l nb)]; exact nb) hb
  · rw [onn_out (lay_none l nb)]
    exact ub.free b o e (by rw [off_out (lay_none l nb)]; exact nb)
  · have nb := lay_not l e fun _ z => nomatch z
    rw [onn_out nb]
    exact ub.tups b xs (by rw [off_out nb]; exact e)
  · have nb := lay_not l e fun _ z => nomatch z
    rw [onn_out nb]
    exact ub.frzs b o v (by rw [off_out nb]; exact e)
  · have nb := lay_not l e fun _ z => nomatch z
    obtain ⟨more, y⟩ := ub.tbls b ps (by rw [off_out nb]; exact e)
    exact ⟨more, by rw [onn_out nb]; exact y⟩
  · rw [onn_out nofl]
    exact na
end
/-- the closure cl has the names fr; their cells are among cs, with these values -/
structure Sits (cl : List (Str × Addr)) (fr : List Str) (cs : Cs) (vals : List V) : Prop where
  len : vals.length = fr.length
  at_ : ∀ (i : Nat) (y : Str), fr[i]? = some y → ∃ p ∈ cs, cl.lookup y = some p.1 ∧ ∀ v, vals[i]? = some v → ∃ u, RelV v u ∧ p.2.data = .cell (some u)
  only : ∀ (y : Str) (c : Addr), cl.lookup y = some c → y ∈ fr
  inj : ∀ x y c, cl.lookup x = some c → cl.lookup y = some c → x = y
def Cells (cs : Cs) : Prop := (cs.map (·.1)).Nodup ∧ ∀ p ∈ cs, ∃ u, p.2.data = .cell (some u)
theorem Sits.cells {P : Program} {w : World} {cl : List (Str × Addr)} {fr : List Str} {cs : Cs} {vals : List V} {H : Hp} {h : Heap} (F : Sits cl fr cs vals) (C : Cells cs) (ok : HOk P w H h) (l : Lay cs H) : CellsAt cl fr (vals.map some) h (off cs H) := by
  refine ⟨by rw [List.length_map]; exact F.len, fun y c e => ?_, F.inj, fun i y hy => ?_⟩
  · obtain ⟨i, hi⟩ := List.mem_iff_getElem?.mp (F.only y c e)
    obtain ⟨p, hp, e2, _⟩ := F.at_ i y hi
    rw [e] at e2
    obtain rfl := Option.some.inj e2
    obtain ⟨u, d⟩ := C.2 p hp
    exact ⟨off_in (List.mem_map.mpr ⟨p, hp, rfl⟩), _, p.2, lay_at ok l p hp, d⟩
  · obtain ⟨p, hp, e2, k⟩ := F.at_ i y hy
    refine ⟨p.1, e2, fun v hv => ?_⟩
    rw [List.getElem?_map] at hv
    cases z : vals[i]? with
    | none => rw [z] at hv; cases hv
    | some x =>
      rw [z] at hv
      obtain rfl : x = v := Option.some.inj (Option.some.inj hv)
      obtain ⟨u, r, d⟩ := k x z
      exact ⟨u, r, p.2, lay_at ok l p hp, d⟩
/-- some of a frame's cells, out of all of them -/
theorem Fits.sits {cl0 cl : List (Str × Addr)} {fr0 fr : List Str} {cs : Cs} {vals0 vals : List V} (F : Fits cl0 fr0 cs vals0) (inj : ∀ x y c, cl.lookup x = some c → cl.lookup y = some c → x = y) (sub : ∀ y ∈ fr, ∀ c, cl0.lookup y = some c → cl.lookup y = some c) (only : ∀ (y : Str) (c : Addr), cl.lookup y = some c → y ∈ fr)
    (js : List Nat) (h1 : js.map (fun j => fr0[j]?) = fr.map some) (h2 : js.map (fun j => vals0[j]?) = vals.map some) : Sits cl fr cs vals := by
  have e1 := congrArg List.length h1
  have e2 := congrArg List.length h2
  rw [List.length_map, List.length_map] at e1 e2
  refine ⟨by omega, fun i y hy => ?_, only, inj⟩
  have hi : i < fr.length := (List.getElem?_eq_some_iff.mp hy).1
  have hj : i < js.length := by omega
  have g1 : fr0[js[i]]? = some y := by
    have := congrArg (fun l => l[i]?) h1
    rw [List.getElem?_map, List.getElem?_map, List.getElem?_eq_getElem hj, hy] at this
    exact Option.some.inj this
  have hc : js[i] < cs.length := by rw [F.len]; exact (List.getElem?_eq_some_iff.mp g1).1
  refine ⟨cs[js[i]], List.getElem_mem hc, sub y (List.mem_of_getElem? hy) _ (F.at_ _ y _ g1 (List.getElem?_eq_getElem hc)), fun v hv => ?_⟩
  have g2 : vals0[js[i]]? = some v := by
    have := congrArg (fun l => l[i]?) h2
    rw [List.getElem?_map, List.getElem?_map, List.getElem?_eq_getElem hj, hv] at this
    exact Option.some.inj this
  exact F.val _ _ v (List.getElem?_eq_getElem hc) g2
theorem Fits.all {cl : List (Str × Addr)} {fr : List Str} {cs : Cs} {vals : List V} (F : Fits cl fr cs vals) : Cells cs := by
  refine ⟨F.nd, fun p hp => ?_⟩
  obtain ⟨i, hi⟩ := List.mem_iff_getElem?.mp hp
  have hl : i < vals.length := by rw [F.lenV, ← F.len]; exact (List.getElem?_eq_some_iff.mp hi).1
  obtain ⟨u, _, d⟩ := F.val i p vals[i] hi (List.getElem?_eq_getElem hl)
  exact ⟨u, d⟩
section
variable {P : Program} {w : World} {K : PySem.W.Frag} {mg : Str → Option Value} {base : Heap} {F : NF} {b : Expr} {f : Addr} {k : Nat} {fr : List Str} {sp : List (Option V) → Sp} {vals : List V} {cs : Cs}
/-- such a lambda, wherever its cells are told -/
theorem callV_lam (o : LOk P w K mg base (L2.CX P w) k f F b fr sp) (ft : Sits F.cl fr cs vals) (C : Cells cs) :
    CallV P w K mg base (L2.CX P w) k f (fun H => H f = some (LamO f F b) ∧ H F.c = some (CodeO F.c F.qual) ∧ Lay cs H) (fun vs H Q E => sp (vals.map some) vs (off cs H) (fun v H' => (∀ p ∈ cs, H' p.1 = none) → Q v (onn cs H')) (fun cls d H' => (∀ p ∈ cs, H' p.1 = none) → E cls d (onn cs H'))) := by
  refine ⟨fun ok g => let ⟨_, _, e⟩ := (ok f _ g.1).1; ⟨_, _, _, _, e⟩, fun A outer s H us vs Q E hr e0 ⟨g1, g2, l⟩ r q => ?_⟩
  have n1 : f ∉ cs.map (·.1) := fun z => by
    obtain ⟨p, hp, e⟩ := List.mem_map.mp z
    obtain ⟨pm, ctv, ho⟩ := (e0.hok f _ g1).1
    obtain ⟨u, d⟩ := C.2 p hp
    have := lay_at e0.hok l p hp
    rw [e, ho] at this
    rw [← Option.some.inj this] at d
    cases d
  have n2 : F.c ∉ cs.map (·.1) := fun z => by
    obtain ⟨p, hp, e⟩ := List.mem_map.mp z
    obtain ⟨oc, vs2, t, h1, h2, _⟩ := (e0.hok F.c _ g2).1
    obtain ⟨u, d⟩ := C.2 p hp
    have := lay_at e0.hok l p hp
    rw [e, h1] at this
    rw [← Option.some.inj this, h2] at d
    cases d
  refine codeAny_mono (o.run A outer s (off cs H) us vs _ _ _ hr (env0_off e0 l) (by rw [off_out n1]; exact g1) (by rw [off_out n2]; exact g2) (ft.cells C e0.hok l) r q) fun r s' h => ?_
  cases r with
  | error e => exact cx_on C.1 l e0.hok e0.frf h
  | ok fl =>
    cases fl with
    | ret u => exact ce_on e0 C.1 l h
    | next => exact False.elim h
    | brk => exact False.elim h
    | cont => exact False.elim h
end
/-- statements that end in a return: the slots are known there -/
structure PSZ (X : Cx) (b : List Stmt) (t : (L2.St → V → Hp → Prop) → L2.St → Hp → Prop) : Prop where
  run : ∀ (pins : List (Addr × Obj)) (s : Shared) (σ : L2.St) (H : Hp) (R : L2.St → V → Hp → Prop), Inv X pins σ H s → t R σ H →
    wpAny (model X.prog X.w) X.A (execs b X.env) (fun f s' => ∃ u v σ' H', f = .ret u ∧ Inv X pins σ' H' s' ∧ RelV v u ∧ R σ' v H') X.xe s
section
variable {X : Cx} {st : Stmt} {rest : List Stmt} {ts : TS} {te : TE} {t : (L2.St → V → Hp → Prop) → L2.St → Hp → Prop} {e : Expr} {pos : Pos}
theorem psz_cons (h1 : PS X st ts) (h2 : PSZ X rest t) : PSZ X (st :: rest) (fun R σ H => ts { nx := fun σ' H' => t R σ' H', rt := fun _ _ => False, bk := fun _ _ => False, ct := fun _ _ => False } σ H) := by
  refine ⟨fun pins s σ H R I h => wpAny_execs_cons (thn (h1.run pins s σ H _ I h) fun f s1 q => ?_)⟩
  cases f with
  | next => exact let ⟨σ', H', I', q⟩ := q; h2.run pins s1 σ' H' R I' q
  | ret v => exact let ⟨_, _, _, _, _, z⟩ := q; z.elim
  | brk => exact let ⟨_, _, _, z⟩ := q; z.elim
  | cont => exact let ⟨_, _, _, z⟩ := q; z.elim
theorem psz_ret (he : PE X e te) : PSZ X [.Return (some e) pos] (fun R σ H => te σ H fun v H' => R σ v H') :=
  ⟨fun pins s σ H R I h => wpAny_execs_cons (wpAny_Return_some (thn (he.run pins s σ H _ I h) fun u s1 ⟨x, H1, I1, r1, q1⟩ => ⟨u, x, σ, H1, rfl, I1, r1, q1⟩))⟩
end
theorem cells_only {cs0 : List Str} {names : List (Str × NameKind)} (h : (cellsFrom 0 names []).map (·.1) = cs0) {n : Nat} : ∀ (y : Str) (c : Addr), (cellsFrom n names []).lookup y = some c → y ∈ cs0 := fun y c e => by
  rw [← h, PyProof.Rows.cellsFrom_names names 0 n [] [] rfl]
  exact List.mem_map.mpr ⟨(y, c), PySem.mem_of_lookup e, rfl⟩
section
variable {P : Program} {w : World} {K : PySem.W.Frag} {mg : Str → Option Value} {base : Heap} {k : Nat} {f : Addr} {N ps fr : List Str} {js : List Nat} {sp : Sp}
theorem okGC {x qual : Str} {st : Stmt} {oc kV doc pm cdv ct : Value} {an od : Option Addr} {osl : Array (Option Value)} (lk : K.lookup f = some ⟨oc, od, .func (PySem.W.fnOf x qual (defArgs st) (defBody st) (defScope st) .none kV doc pm an cdv ct), osl⟩) (hcd : PySem.W.codeIn K cdv qual = true)
    (S : FnScope N ps (defScope st)) (hfr : (cellsFrom 0 (defScope st).names []).map (·.1) = fr) (hnd : fr.Nodup) (hkin : ∀ y ∈ fr, (defScope st).names.lookup y = some .cell) (hjs : js.map (fun j => N[j]?) = fr.map some)
    (len : ∀ vs H Q E, sp vs H Q E → vs.length = ps.length)
    (hbody : ∀ (A : Around) (outer : List Env) (s : Shared) (H : Hp) (vs : List V) (Q : VK) (E : XK), Room k (A.deeper (envOfC qual (defScope st) s.heap.objs.size f cdv)) → A.guards = some [] → sp vs H Q E →
      ∃ t, PSZ (cxOf CX0 P w K mg base N qual (defScope st) f cdv A outer s H E).nox (defBody st) t ∧ t (fun σ v H' => ∃ vals : List V, js.map (fun j => σ[j]?) = vals.map (fun v => some (some v)) ∧
        ∀ cs, Fits (envOfC qual (defScope st) s.heap.objs.size f cdv).cells fr cs vals → (∀ p ∈ cs, H' p.1 = none) → Q v (onn cs H')) (start N vs) H) : WG.FnG P w K mg base (k + 1) f (PySem.W.fnOf x qual (defArgs st) (defBody st) (defScope st) .none kV doc pm an cdv ct) ps sp := by
  refine ⟨len, fun A outer s H args us vs Q E hr hg e0 hb r hsp => ?_⟩
  have hl := len _ _ _ _ hsp
  have stays : ∀ b o, base.get? b = some o → s.heap.get? b = some o := fun b o e => (e0.bs b o e).1
  have KX : K.In s.heap := e0.mod.kin.keeps stays
  have kinds : ∀ y ∈ ps.zip us, (defScope st).names.lookup y.1 = some .local ∨ ((defScope st).names.lookup y.1 = some .cell ∧ ((cellsFrom (s.heap.objs.size + 1) (defScope st).names []).lookup y.1).isSome = true) := fun y hy => by
    rcases S.par y.1 (List.of_mem_zip (show (y.1, y.2) ∈ ps.zip us from hy)).1 with q | q
    · exact Or.inl q
    · exact Or.inr (And.intro q (PySem.W.cellsFrom_some _ _ _ (.inl q)))
  refine codeAny_call_function hr.depth (KX _ _ lk) rfl S.co S.gen rfl (PySem.W.codeRec_of KX hcd) (hb _ _ _ _ (wpAny_newFunctionEnv_cells S.kind kinds fun env he s1 x => ?_))
  subst he
  refine ⟨(e0.mod.nolimit.keeps stays).keeps x.toInCall.keep, codeAny_func ?_⟩
  obtain ⟨t, ht, hq⟩ := hbody A outer s H vs Q E (hr.deeper _) hg hsp
  have I := (inv_start (CX := CX0) S hr.hd e0 hl (E := E) r x).wish (E := fun _ _ => False)
  refine wpAny_mono (ht.run [] s1 (start N vs) H _ I hq) (fun fl s' hs => ?_) fun e s' hs => (show False from hs).elim
  obtain ⟨u, v, σ', H', rfl, J, rv, vals, hv, q⟩ := hs
  obtain ⟨cs, ft, hcs⟩ := fits_of (cl := (envOfC qual (defScope st) s.heap.objs.size f cdv).cells) J ⟨fun _ _ e => e, fun y hy => .inl (hkin y hy), fun _ _ _ e => e, hjs⟩ (cells_only hfr) hnd hv
  have none_ : ∀ p ∈ cs, H' p.1 = none := fun p hp => (hcs p hp).1
  have at_ : ∀ p ∈ cs, s'.heap.get? p.1 = some p.2 := fun p hp => (hcs p hp).2.1
  have young : ∀ p ∈ cs, s.heap.objs.size ≤ p.1 := fun p hp => let ⟨y, hy, e⟩ := (hcs p hp).2.2; J.ok.cab y p.1 rfl e
  have base' : Un (frs outer) [] H H' s.heap s'.heap := J.base
  have old : ∀ {b : Addr} {o : Obj}, s.heap.get? b = some o → b ∉ cs.map (·.1) := fun {b o} e z => by
    obtain ⟨p, hp, rfl⟩ := List.mem_map.mp z
    exact absurd (Heap.lt_size e) (Nat.not_lt.mpr (young p hp))
  have told : ∀ {b : Addr} {o : HO}, H b = some o → b ∉ cs.map (·.1) := fun {b o} e z => by
    obtain ⟨p, hp, rfl⟩ := List.mem_map.mp z
    exact absurd (e0.hok.lt e) (Nat.not_lt.mpr (young p hp))
  refine ⟨v, onn cs H', J.os, J.bare, ⟨base'.keep, base'.slot, fun b o e n hx => ?_, base'.there, fun b xs e => ?_, fun b o u e => ?_, fun b ps e => ?_⟩, hok_on J.hok ft.nd none_ at_, rv, q cs ft none_⟩
  · rw [onn_out (old e)]
    exact base'.free b o e n hx
  · rw [onn_out (told e)]
    exact base'.tups b xs e
  · rw [onn_out (told e)]
    exact base'.frzs b o u e
  · rw [onn_out (told e)]
    exact base'.tbls b ps e
/-- as okG, its code object known -/
theorem okGx {x qual : Str} {st : Stmt} {oc kV doc pm cdv ct : Value} {an od : Option Addr} {osl : Array (Option Value)} (lk : K.lookup f = some ⟨oc, od, .func (PySem.W.fnOf x qual (defArgs st) (defBody st) (defScope st) .none kV doc pm an cdv ct), osl⟩) (hcd : PySem.W.codeIn K cdv qual = true)
    (S : FnScope N ps (defScope st)) (len : ∀ vs H Q E, sp vs H Q E → vs.length = ps.length)
    (hbody : ∀ (A : Around) (outer : List Env) (s : Shared) (H : Hp) (vs : List V) (Q : VK) (E : XK), Room k (A.deeper (envOfC qual (defScope st) s.heap.objs.size f cdv)) → A.guards = some [] → sp vs H Q E →
      ∃ t, PSs (cxOf CX0 P w K mg base N qual (defScope st) f cdv A outer s H E).nox (defBody st) t ∧ t { nx := fun _ H' => Q .non H', rt := Q } (start N vs) H) : WG.FnG P w K mg base (k + 1) f (PySem.W.fnOf x qual (defArgs st) (defBody st) (defScope st) .none kV doc pm an cdv ct) ps sp := by
  refine ⟨len, fun A outer s H args us vs Q E hr hg e0 hb r hsp => ?_⟩
  have hl := len _ _ _ _ hsp
  have stays : ∀ b o, base.get? b = some o → s.heap.get? b = some o := fun b o e => (e0.bs b o e).1
  have KX : K.In s.heap := e0.mod.kin.keeps stays
  have kinds : ∀ y ∈ ps.zip us, (defScope st).names.lookup y.1 = some .local ∨ ((defScope st).names.lookup y.1 = some .cell ∧ ((cellsFrom (s.heap.objs.size + 1) (defScope st).names []).lookup y.1).isSome = true) := fun y hy => by
    rcases S.par y.1 (List.of_mem_zip (show (y.1, y.2) ∈ ps.zip us from hy)).1 with q | q
    · exact Or.inl q
    · exact Or.inr (And.intro q (PySem.W.cellsFrom_some _ _ _ (.inl q)))
  refine codeAny_call_function hr.depth (KX _ _ lk) rfl S.co S.gen rfl (PySem.W.codeRec_of KX hcd) (hb _ _ _ _ (wpAny_newFunctionEnv_cells S.kind kinds fun env he s1 x => ?_))
  subst he
  refine ⟨(e0.mod.nolimit.keeps stays).keeps x.toInCall.keep, codeAny_func ?_⟩
  obtain ⟨t, ht, hq⟩ := hbody A outer s H vs Q E (hr.deeper _) hg hsp
  have I := inv_start (CX := CX0) S hr.hd e0 hl (E := E) r x
  refine wpAny_mono (ht.nox.run [] s1 (start N vs) H _ I hq) (fun fl s' hs => ?_) fun e s' hs => hs
  cases fl with
  | next => exact let ⟨_, H', J, q⟩ := hs; ⟨.non, H', J.os, J.bare, J.base, J.hok, rfl, q⟩
  | ret u => exact let ⟨v, _, H', J, rv, q⟩ := hs; ⟨v, H', J.os, J.bare, J.base, J.hok, rv, q⟩
  | brk => exact let ⟨_, _, _, q⟩ := hs; q.elim
  | cont => exact let ⟨_, _, _, q⟩ := hs; q.elim
end
end FV
set_option Elab.async false
set_option linter.all false
set_option maxRecDepth 100000
set_option maxHeartbeats 4000000
namespace WE
open PySem L2 PyProof.Rows PySem.W
/-- what the written part says of a class of errors at C -/
def errB (K : Frag) (C : Addr) : Bool :=
  (clsIn K C).isSome && (findIn K (.ref C) "__getattribute__" == some (some (.builtin "BaseException.__getattribute__"))) && (findIn K (.ref C) "__getattr__" == some none)
    && (subIn K (.ref C) (.type "BaseException") == some true) && hasDictIn K C && (findIn K (.ref C) "__class__" == some (some (.builtin "object.__class__")))
    && (mroIn K C (.type "object") == some true) && keepIn K (.ref C) && (specialIn K (.builtin "object.__class__") "__get__" == some (some (.builtin "getset_descriptor.__get__")))
    && (takesIn K (.builtin "object.__class__") == some true)
structure ErrT (K : Frag) (C : Addr) : Prop where
  cl : (clsIn K C).isSome = true
  ga : findIn K (.ref C) "__getattribute__" = some (some (.builtin "BaseException.__getattribute__"))
  gg : findIn K (.ref C) "__getattr__" = some none
  sb : subIn K (.ref C) (.type "BaseException") = some true
  hd : hasDictIn K C = true
  ca : findIn K (.ref C) "__class__" = some (some (.builtin "object.__class__"))
  ob : mroIn K C (.type "object") = some true
  kp : keepIn K (.ref C) = true
  gs : specialIn K (.builtin "object.__class__") "__get__" = some (some (.builtin "getset_descriptor.__get__"))
  tk : takesIn K (.builtin "object.__class__") = some true
theorem ErrT.of {K : Frag} {C : Addr} (h : errB K C = true) : ErrT K C := by
  unfold errB at h
  simp only [Bool.and_eq_true, beq_iff_eq] at h
  obtain ⟨⟨⟨⟨⟨⟨⟨⟨⟨h1, h2⟩, h3⟩, h4⟩, h5⟩, h6⟩, h7⟩, h8⟩, h9⟩, h10⟩ := h
  exact ⟨h1, h2, h3, h4, h5, h6, h7, h8, h9, h10⟩
/-- with an __init__ of its own at f, over the built-in class with the chain bm, that stores the field nm -/
def errI (K : Frag) (C f : Addr) (bm : List Value) (newId : String) (nm : Str) : Bool :=
  excInitIn K C bm newId && excOver K C bm && (findIn K (.ref C) "__setattr__" == some (some (.builtin "object.__setattr__"))) && (findIn K (.ref C) "__init__" == some (some (.ref f)))
    && (typeIn K (.ref f) == some (.type "function")) && (takerIn K C nm == some none) && (findIn K (.ref C) nm == some none)
structure ErrI (K : Frag) (C f : Addr) (bm : List Value) (newId : String) (nm : Str) : Prop where
  im : excInitIn K C bm newId = true
  ov : excOver K C bm = true
  sa : findIn K (.ref C) "__setattr__" = some (some (.builtin "object.__setattr__"))
  fi : findIn K (.ref C) "__init__" = some (some (.ref f))
  tf : typeIn K (.ref f) = some (.type "function")
  tn : takerIn K C nm = some none
  no : findIn K (.ref C) nm = some none
theorem ErrI.of {K : Frag} {C f : Addr} {bm : List Value} {newId : String} {nm : Str} (h : errI K C f bm newId nm = true) : ErrI K C f bm newId nm := by
  unfold errI at h
  simp only [Bool.and_eq_true, beq_iff_eq] at h
  exact let ⟨⟨⟨⟨⟨⟨im, ov⟩, sa⟩, fi⟩, tf⟩, tn⟩, no⟩ := h; ⟨im, ov, sa, fi, tf, tn, no⟩
/-- an error of the class at C stands at a, with its dict or without one -/
def ErrAt (H : Hp) (a C : Addr) : Prop := ∃ d, H a = some (exo a C d) ∧ (d = none ∨ ∃ dx fs, d = some dx ∧ H dx = some (exd dx fs))
theorem ErrAt.same {H H' : Hp} {a C : Addr} (s : Same H H') (e : ErrAt H a C) : ErrAt H' a C := by
  obtain ⟨d, ha, hd⟩ := e
  refine ⟨d, s _ _ ha, ?_⟩
  rcases hd with h | ⟨dx, fs, h, hx⟩
  · exact .inl h
  · exact .inr ⟨dx, fs, h, s _ _ hx⟩
/-- how an instance of a class over such a chain is made, its own __init__ run -/
def MakesBy (bmB : List Value) (newId : String) : Prop := ∀ {prog : Program} {w : World} {A : Around} {R : Result → Shared → Prop} {h : Heap} {g : Array GenState} {d : Drawn} {t : Nat} {os : OsState} {nm q : Str} {C N : Addr} {bs bm : List Value} {hdct : Bool} {sn : List Str} {sub : List Value}
    {ab : Bool} {col : Option Bool} {dd : Option Addr} {k0 k1 k2 k3 k5 : Option Value} {rest : List Value} {fI : Addr}, (∀ X : String, bm.contains (.type X) = bmB.contains (.type X)) →
    h.get? C = some (excClassObj nm q C N bs bm hdct sn sub ab col dd k0 k1 k2 k3 k5 newId) → Looks (model prog w) h (typeLookup (.ref C) "__init__") (some (.ref fI)) → (∀ self, Looks (model prog w) h (bindSpecial (.ref fI) self) (.ref fI, [self])) → rest.length ≤ sizeLine →
    codeAny (model prog w) (A.under (.builtin "type.__call__" ⟨.ref C :: rest, []⟩)) (.call (.ref fI) ⟨.ref (h.objs.size + 1) :: rest, []⟩) (InitBack (h.objs.size + 1) R) ⟨(h.push (kdv_tup rest)).push (HandSPX.excO C h.objs.size), g, d, t, os⟩ →
    codeAny (model prog w) A (.call (.ref C) ⟨rest, []⟩) R ⟨h, g, d, t, os⟩
theorem MakesBy.of {bmB : List Value} {B newId initId : String} (F : ExcBaseFacts B newId initId bmB) : MakesBy bmB newId := fun hT hC hi hb hz hq => HandSPX.call_own F hT hC hi hb hz hq
section
variable {prog : Program} {w : World} {A : Around} {R : Result → Shared → Prop} {hp : Heap} {g : Array GenState} {d : Drawn} {t : Nat} {os : OsState}
theorem osa_err {K : Frag} {name : Str} {tk : Tok} {v : Value} {x C : Addr} {fv : Array Value} {bmB : List Value} {B : String} (SF : StoreFacts B bmB "object.__setattr__" "object")
    (X : K.In hp) (hx : hp.get? x = some { cls := .ref C, data := .fields fv }) (ov : excOver K C bmB = true) (tn : takerIn K C name = some none) (hdc : hasDictIn K C = true)
    (done : ∀ k u dx, (∀ b q, b ≠ x → hp.get? b = some q → k.get? b = some q) → hp.objs.size ≤ dx → dx ≠ x → k.get? x = some { cls := .ref C, dict := some dx, data := .fields fv } → k.Ns1 dx (fun y => if y = name then some v else none) →
      R (.ok (.ret .none)) ⟨k, g, d, u, os⟩) : codeAny (model prog w) A (.call (.builtin "object.__setattr__") ⟨[.ref x, .str name tk, v], []⟩) R ⟨hp, g, d, t, os⟩ := by
  have I : InstAt hp x { cls := .ref C, data := .fields fv } C none := ⟨hx, rfl, rfl, trivial⟩
  refine osa_openX (s := ⟨hp, g, d, t, os⟩) SF X I ov tn fun b => ?_
  obtain ⟨cd, hcd, dictful⟩ := any_some hdc
  have isCls : Looks (model prog w) hp (classData C) cd := looks_clsIn X hcd
  have old : x ≠ hp.objs.size := Nat.ne_of_lt (Heap.lt_size hx)
  show wpAny _ _ (Builtin.ObjectAttr.storeInOwnDict (.ref x) (.ref C) (.str name tk) name v b) _ _ _
  rcases cd with ⟨_, _, _, _, _, hd, _, _, _, _, _⟩
  cases (dictful : hd = true)
  unfold Builtin.ObjectAttr.storeInOwnDict; unfold Builtin.ObjectAttr.ownDictForStores
  repeat first | with_reducible refine HandSPX.store_in_new ?_ ?_ | with_reducible refine isCls.at ?_ | with_reducible refine wpAny_loadPart_at hx ?_ | wp_step
  · exact ⟨_, #[], _, (Heap.get?_update_ne _ _ _ _ old.symm).trans (Heap.get?_push_at rfl rfl), rfl, (fun e at_e => (show False by simp at at_e).elim), fun _ => rfl⟩
  · intro k u ns same
    have there : (hp.push { cls := .type "dict", data := .dict #[] }).get? x = some { cls := .ref C, data := .fields fv } := Heap.get?_push_of_some _ hx
    refine done k u hp.objs.size (fun c q nx at_c => (same.2 c (Nat.ne_of_lt (Heap.lt_size at_c))).trans ?_) (Nat.le_refl _) old.symm ((same.2 x old).trans (Heap.get?_update_self _ there rfl)) ns
    exact (Heap.get?_update_ne _ _ _ _ nx).trans (Heap.get?_push_of_some _ at_c)
end
section
variable {X : Cx}
/-- self.nm = e on such an error -/
theorem set_err {pins : List (Addr × Obj)} {σ : L2.St} {H : Hp} {s : Shared} {a C fI : Addr} {nm : Str} {y : V} {u : Value} {bmB : List Value} {B newId : String} {Q : Unit → Shared → Prop} {E : Value → Shared → Prop} {A : Around}
    (SF : StoreFacts B bmB "object.__setattr__" "object") (T : ErrT X.K C) (TI : ErrI X.K C fI bmB newId nm) (I : L2.Inv X pins σ H s) (e : H a = some (exo a C none)) (ry : RelV y u)
    (h : ∀ dx s', H dx = none → dx ≠ a → L2.Inv X pins σ (upd (upd H dx (exd dx [(nm, y)])) a (exo a C (some dx))) s' → Q () s') : wpAny (model X.prog X.w) A (setAttr (.ref a) nm u) Q E s := by
  have ⟨t1, ho⟩ := exo_at I.hok e
  obtain ⟨hp, g, d, t, os⟩ := s
  refine set_plain I.kIn (od := none) ⟨ho, rfl, rfl, trivial⟩ TI.sa ?_
  refine osa_err SF I.kIn ho TI.ov TI.tn T.hd fun h' tk' dx k dxNew dne hx hn => ?_
  have dxFree : H dx = none := I.hok.fresh dxNew
  have offDx : ∀ {b : Addr} {o : Obj}, hp.get? b = some o → b ≠ dx := fun {b o} q => Nat.ne_of_lt (Nat.lt_of_lt_of_le (Heap.lt_size q) dxNew)
  have offA : ∀ {b : Addr}, H b = none → b ≠ a := fun {b} n z => nomatch (z ▸ n).symm.trans e
  have un : Un X.fs [] H (upd (upd H dx (exd dx [(nm, y)])) a (exo a C (some dx))) hp h' :=
    ⟨fun b o q n _ _ => k b o (offA n) q, fun b o q n _ _ => ⟨o.slots, k b o (offA n) q⟩, fun b o q n _ => by rw [upd_ne (offA n), upd_ne (offDx q)]; exact n,
      fun b o q _ => if hb : b = a then ⟨_, hb ▸ hx⟩ else ⟨o, k b o hb q⟩,
      fun b xs q => by rw [upd_ne (at_ne e q exo_tup), upd_ne (ne_of_none q dxFree)]; exact q, fun b o v q => by rw [upd_ne (at_ne e q exo_frz), upd_ne (ne_of_none q dxFree)]; exact q,
      fun b ps q => ⟨#[], by rw [upd_ne (at_ne e q exo_tbl), upd_ne (ne_of_none q dxFree), q]; simp⟩⟩
  refine h dx _ dxFree dne (I.un (t' := tk') un fun b o q => ?_)
  by_cases hb : b = a
  · subst hb
    rw [upd_same] at q
    cases q
    exact exo_ok hx
  · rw [upd_ne hb] at q
    by_cases hd : b = dx
    · subst hd
      rw [upd_same] at q
      cases q
      exact exd_ok hn (relO_put (fs := []) ry fun _ => trivial)
    · rw [upd_ne hd] at q
      refine (I.hok b o q).stay (fun c v hc z => k c v ?_ z) (fun c hc => by rw [upd_ne (at_ne e hc exo_own), upd_ne (ne_of_none hc dxFree)]; exact hc) fun c xs hc => by rw [upd_ne (at_ne e hc exo_tup), upd_ne (ne_of_none hc dxFree)]; exact hc
      rcases hc with hc | hc
      · rw [hc]
        exact hb
      · exact at_ne e hc exo_own
def tSetE (nm : Str) (C : Addr) (to te : TE) : TS := fun D σ H => te σ H fun y H1 => to σ H1 fun x H2 => ∃ a : Addr, x = .ref a ∧ H2 a = some (exo a C none) ∧
  ∀ dx, H2 dx = none → dx ≠ a → D.nx σ (upd (upd H2 dx (exd dx [(nm, y)])) a (exo a C (some dx)))
theorem ps_setE {C fI : Addr} {nm : Str} {bmB : List Value} {B newId : String} {o e : Expr} {to te : TE} {p' pos : Pos} (SF : StoreFacts B bmB "object.__setattr__" "object") (T : ErrT X.K C) (TI : ErrI X.K C fI bmB newId nm) (ho : PE X o to) (he : PE X e te)
    (hs : swapsWith e (some (.Attribute o nm p')) pos.line X.env = pure false := by rfl) : PS X (.Assign [.Attribute o nm p'] e pos) (tSetE nm C to te) := by
  refine ⟨fun pins s σ H D I h => ?_⟩
  refine plainObj_wpAny_Assign_Attribute (thn (he.run pins s σ H _ I h) fun v s1 ⟨y, H1, I1, r1, q1⟩ => thn (ho.run pins s1 σ H1 _ I1 q1) fun u s2 ⟨x, H2, I2, r2, a, ex, ea, q⟩ => ?_) hs
  subst ex
  cases (r2 : u = Value.ref a)
  exact set_err SF T TI I2 ea r1 fun dx s' n ne J => ⟨σ, _, J, q dx n ne⟩
/-- what such an __init__ promises -/
def spErrI (C : Addr) (nm : Str) : Sp := fun vs H Q _ => ∃ (a : Addr) (v : V), vs = [.ref a, v] ∧ H a = some (exo a C none) ∧ ∀ d, H d = none → d ≠ a → Q .non (upd (upd H d (exd d [(nm, v)])) a (exo a C (some d)))
end
end WE
set_option Elab.async false
set_option linter.all false
set_option maxRecDepth 100000
set_option maxHeartbeats 4000000
namespace WE
open PySem L2 PyProof.Rows PySem.W
section
variable {X : Cx}
/-- its dict d stays where it was made -/
def tMkI (C : Addr) (nm : Str) (ta : TA) : L2.St → Hp → XK → Prop := fun σ H Q => ta σ H fun vs H1 => ∃ v, vs = [v] ∧ ∀ d H2, H1 d = none → (∀ b o, H1 b = some o → H2 b = some o) → H2 d = some (.xd [(nm, v)]) → Q (.ref C) (some d) H2
theorem pmk_errI {C fI : Addr} {nm : Str} {bmB : List Value} {newId : String} {x : Str} {k : Nat} {fd : FuncData} {ps : List Str} {e : Expr} {ta : TA} {p pos : Pos} (MB : MakesBy bmB newId) (T : ErrT X.K C) (TI : ErrI X.K C fI bmB newId nm) (R : Raises X (.ref C))
    (G : FnOk X.prog X.w X.K X.mg X.base CX0 k fI fd ps (spErrI C nm)) (hr : Room (k + 1) X.A) (b : L2.Binds X.K fd ps []) (gC : X.mg x = some (.ref C)) (ha : PA X [e] ta) (hg : Gl X x := by rfl)
    (hs : starEach [e] X.env = (false, eval e X.env) :: starEach [] X.env := by rfl) (hpl : (backTo pos (starEach [] X.env)).any (·.1) = false := by rfl) (hdb : (x == ("__debug__" : Str)) = false := by decide) : PMk X (.Call (.Name x p) [e] [] pos) (tMkI C nm ta) := by
  intro pins s σ H Q I h
  refine wpAny_Call_Name_kw (ld_glob I hg gC (callWith_K (h₀ := X.base) I.ok.mod.kin T.kp (thn (ha.run pos pins s σ H _ I h) fun us s1 ⟨vs, H1, I1, r1, v, ev, q1⟩ => ⟨I1.kIn, ?_⟩) hs hpl) hdb)
  subst ev
  obtain ⟨nm0, N, qn, bs, bm, hdct, sn, sub, ab, col, dd, k0, k1, k2, k3, k5, hC, hT⟩ := excInit_of I1.kIn TI.im
  rw [List.nil_append]
  obtain ⟨hp, g, dr, tk, os⟩ := s1
  have hn : H1 (hp.objs.size + 1) = none := I1.hok.fresh (Nat.le_succ _)
  have kk : ∀ c o, hp.get? c = some o → ((hp.push (kdv_tup us)).push (HandSPX.excO C hp.objs.size)).get? c = some o := fun c o z => Heap.get?_push_of_some _ (Heap.get?_push_of_some _ z)
  have hget : ((hp.push (kdv_tup us)).push (HandSPX.excO C hp.objs.size)).get? (hp.objs.size + 1) = some (HandSPX.excO C hp.objs.size) := by heap_get
  have I2 : L2.Inv X pins σ (upd H1 (hp.objs.size + 1) (exo (hp.objs.size + 1) C none)) ⟨(hp.push (kdv_tup us)).push (HandSPX.excO C hp.objs.size), g, dr, tk, os⟩ :=
    I1.laid (t' := tk) (a := hp.objs.size + 1) (o := exo (hp.objs.size + 1) C none) (h' := (hp.push (kdv_tup us)).push (HandSPX.excO C hp.objs.size)) kk (Nat.le_succ _) (exo_ok hget)
  have r2 : Vals [V.ref (hp.objs.size + 1), v] (Value.ref (hp.objs.size + 1) :: us) := .cons rfl r1
  have want : spErrI C nm [V.ref (hp.objs.size + 1), v] (upd H1 (hp.objs.size + 1) (exo (hp.objs.size + 1) C none)) (fun z H2 => z = .non ∧ ∃ d, H1 d = none ∧ d ≠ hp.objs.size + 1 ∧ H2 = upd (upd (upd H1 (hp.objs.size + 1) (exo (hp.objs.size + 1) C none)) d (exd d [(nm, v)])) (hp.objs.size + 1) (exo (hp.objs.size + 1) C (some d))) (fun _ _ _ => False) := by
    refine ⟨_, _, rfl, upd_same, fun d hd hne => ⟨rfl, d, ?_, hne, rfl⟩⟩
    rw [upd_ne hne] at hd
    exact hd
  have hl : (Value.ref (hp.objs.size + 1) :: us).length = ps.length := by
    rw [← r2.length]
    exact G.len _ _ _ _ want
  have hus : us.length ≤ sizeLine := (Paired.length r1) ▸ (by rw [sizeLine_eq]; exact (by decide : 1 ≤ 16777216))
  refine wpAny_call (MB hT hC (looks_findIn I1.kIn TI.fi) (fun self => bind_fn I1.kIn self TI.tf) hus
    (codeAny_mono (G.run _ X.stack _ _ ⟨Value.ref (hp.objs.size + 1) :: us, []⟩ (Value.ref (hp.objs.size + 1) :: us) _ _ _ (hr.make C us []) (I2.env0.make C us []) (by have z := b _ (Value.ref (hp.objs.size + 1) :: us) I2.kIn (by simpa using hl); simpa using z) r2 want) fun r s' hq' => ?_))
  cases r with
  | error er => exact pass0 pins σ _ _ er s' I2 hq'
  | ok fl =>
    cases fl with
    | ret u =>
      obtain ⟨z, H2, e1, e2, e3, e4, rv, ez, d, d1, d2, eH⟩ := hq'
      subst ez
      subst eH
      have na : hp.objs.size + 1 ≠ d := fun z => d2 z.symm
      refine ⟨rv, mk_end (d := d) (fs := [(nm, v)]) R I1 (Nat.le_succ _) kk e3 e4 e1 e2 upd_same ?_ d1 (q1 d _ d1 (fun b o z => ?_) upd_same)⟩
      · rw [upd_ne d2, upd_same]
      · have nb : b ≠ d := ne_of_none z d1
        have nb2 : b ≠ hp.objs.size + 1 := ne_of_none z hn
        rw [upd_ne nb, del_ne nb2, upd_ne nb2, upd_ne nb, upd_ne nb2]
        exact z
    | _ => exact (show False from hq').elim
end
end WE
set_option Elab.async false
set_option linter.all false
set_option maxRecDepth 100000
set_option maxHeartbeats 6000000
namespace TRY
open PySem PySem.Spec PyProof.Rows L2
/-- an exception of class cls is caught in the frame of X: the state behind is J's, the flight stands at a -/
structure Caught (X : Cx) (pins : List (Addr × Obj)) (B : Heap) (a : Addr) (cls : Value) (d : Option Addr) (σ : L2.St) (H : Hp) (sI s : Shared) (h3 : Heap) : Prop where
  inv : Inv X pins σ H sI
  nb : ∀ b o, sI.heap.get? b = some o → b ∉ frs X.stack → B.get? b = some o
  fl : HandSPX.FlyingZ B (X.env :: X.outer) a (Zc cls d) h3
  up : sI.heap.UpToSlots h3
  na : H a = none
  os : s.os = sI.os
  bare : AllBare s.gens
/-- the clauses do what W wishes -/
def Does (X : Cx) (hds : List ExceptHandler) (W : Ends → WX) : Prop := ∀ (pins : List (Addr × Obj)) (D : Ends) (B : Heap) (a : Addr) (cls : Value) (d : Option Addr) (σ : L2.St) (H : Hp) (sI s : Shared) (h3 : Heap),
  Caught X pins B a cls d σ H sI s h3 → W D cls d σ H → wpAny (model X.prog X.w) X.A (handleBy (.ref a) X.env hds) (SP X pins D) X.xe { s with heap := h3 }
/-- none of them is ever asked -/
theorem does_stop {X : Cx} {hds : List ExceptHandler} : Does X hds (fun _ _ _ _ _ => False) := fun _ _ _ _ _ _ _ _ _ _ _ _ w => w.elim
/-- a clause's wish, and that of those behind it -/
def wCl (K : PySem.W.Frag) (c : Value) (ts : Addr → Value → Option Addr → TS) (W : Ends → WX) : Ends → WX := fun D cls d σ H =>
  ∃ b, PySem.W.exmOne K cls c = some b ∧ (b = true → ∀ a, H a = none → ts a cls d D σ H) ∧ (b = false → W D cls d σ H)
section
variable {X : Cx} {pins : List (Addr × Obj)} {B : Heap} {a : Addr} {cls : Value} {d : Option Addr} {σ : L2.St} {H : Hp} {sI s : Shared} {h3 : Heap}
theorem Caught.apart (k : Caught X pins B a cls d σ H sI s h3) (hs : X.stack = X.env :: X.outer) (hf : X.env.frame = some X.env.locals) : a ≠ X.env.locals ∧ a ∉ X.fs := by
  obtain ⟨oe, vs, e1, _, e2⟩ := k.fl.there
  have out : a ∉ frs (X.env :: X.outer) := fun m => by
    obtain ⟨_, o, e, n⟩ := k.fl.2.2.1.mem m
    obtain rfl : oe = o := Option.some.inj (e1.symm.trans e)
    exact n _ e2
  refine ⟨fun z => out (List.mem_filterMap.mpr ⟨X.env, .head _, by rw [hf, z]⟩), fun m => ?_⟩
  obtain ⟨e, m1, m2⟩ := List.mem_filterMap.mp m
  exact out (List.mem_filterMap.mpr ⟨e, .tail _ m1, m2⟩)
theorem Caught.here (k : Caught X pins B a cls d σ H sI s h3) : Inv X pins σ H { s with heap := h3 } := k.inv.landed k.nb k.fl.1 k.up k.os k.bare
theorem Caught.in (k : Caught X pins B a cls d σ H sI s h3) (hs : X.stack = X.env :: X.outer) (hf : X.env.frame = some X.env.locals) : ∃ oe, Zc cls d oe ∧ (∃ vs, oe.data = .fields vs) ∧ h3.get? a = some oe ∧ Inv (X.suite a ((a, oe) :: (X.pn ++ pins))) [] σ H { s with heap := h3 } := by
  obtain ⟨oe, vs, e1, z, e2⟩ := k.fl.there
  obtain ⟨n1, n2⟩ := k.apart hs hf
  exact ⟨oe, z, ⟨vs, e2⟩, e1, k.here.suite e1 e2 k.na n1 n2⟩
/-- landed once more -/
theorem Caught.again (k : Caught X pins B a cls d σ H sI s h3) {h4 : Heap} (fl : HandSPX.FlyingZ B (X.env :: X.outer) a (Zc cls d) h4) (up : h3.UpToSlots h4) : Caught X pins B a cls d σ H sI s h4 := ⟨k.inv, k.nb, fl, k.up.trans up, k.na, k.os, k.bare⟩
/-- the clause's test -/
theorem Caught.test (k : Caught X pins B a cls d σ H sI s h3) (hs : X.stack = X.env :: X.outer) (hf : X.env.frame = some X.env.locals) {x : Str} {c : Value} {np : Pos} (hc : Names X x c) {b : Bool} (hb : PySem.W.exmOne X.K cls c = some b) {Q : Bool → Shared → Prop} {E : Value → Shared → Prop} {A2 : Around}
    (q : Q b { s with heap := h3 }) : wpAny (model X.prog X.w) (X.A.mark (some (.ref a))) (eval (.Name x np) X.env) (fun v s' => wpAny (model X.prog X.w) A2 (excMatches (.ref a) v) Q E s') E { s with heap := h3 } := by
  obtain ⟨oe, z, ⟨vs, e2⟩, e1, S⟩ := k.in hs hf
  have ty : PySem.W.Looks (model X.prog X.w) h3 (typeOf (.ref a)) cls := fun A Q E s kp q => wpAny_typeOf_ref (kp _ _ e1) (by rw [z.1]; exact q)
  have mt := (PySem.W.exm_one (M := model X.prog X.w) k.here.kIn ty hb)
  obtain ⟨hg, hd, hm | ⟨hm, hv, hn⟩⟩ := hc
  · exact ld_glob (X := X.suite a ((a, oe) :: (X.pn ++ pins))) S hg hm (mt.here q) hd
  · exact ld_blt (X := X.suite a ((a, oe) :: (X.pn ++ pins))) S hg hm hv (mt.here q) hn hd
end
section
variable {X : Cx} {x n : Str} {c : Value} {i : Nat} {suite : List Stmt} {b₀ : Stmt} {np pos' : Pos} {rest : List ExceptHandler} {ts : Addr → Value → Option Addr → TS} {W : Ends → WX}
/-- what a suite's end gives, in the frame -/
theorem suite_end {a : Addr} {q : Addr × Obj} {pins pn' : List (Addr × Obj)} {D : Ends} {f : Flow} {s : Shared} (ok : X.Ok) (h : SP (X.suite a (q :: (X.pn ++ pins))) pn' D f s) : SP X pins D f s := by
  cases f with
  | ret u => exact let ⟨v, σ', H', S, r, z⟩ := h; ⟨v, σ', H', S.unsuite ok, r, z⟩
  | next => exact let ⟨σ', H', S, z⟩ := h; ⟨σ', H', S.unsuite ok, z⟩
  | brk => exact let ⟨σ', H', S, z⟩ := h; ⟨σ', H', S.unsuite ok, z⟩
  | cont => exact let ⟨σ', H', S, z⟩ := h; ⟨σ', H', S.unsuite ok, z⟩
/-- except x: suite -/
theorem does_cons (hs : X.stack = X.env :: X.outer) (hf : X.env.frame = some X.env.locals) (hc : Names X x c)
    (hsu : ∀ (a : Addr) (oe : Obj) (cls : Value) (d : Option Addr) (pn : List (Addr × Obj)), Zc cls d oe → (∃ vs, oe.data = .fields vs) → PSs (X.suite a ((a, oe) :: pn)) (b₀ :: suite) (ts a cls d)) (r : Does X rest W) :
    Does X (.ExceptHandler (some (.Name x np)) none (b₀ :: suite) pos' :: rest) (wCl X.K c ts W) := by
  intro pins D B a cls d σ H sI s h3 k ⟨b, hb, yes, no⟩
  refine wpAny_handleBy_cons (codeAny_handlers_test (k.test hs hf hc hb ?_)) (fun z => by cases z)
  cases b with
  | false => exact r pins D B a cls d σ H sI s h3 k (no rfl)
  | true =>
    refine codeAny_handlers_suite (HandSPX.lands_againZ k.fl fun h4 fl4 up4 => ?_)
    obtain ⟨oe, z, hv, _, S⟩ := (k.again fl4 up4).in hs hf
    exact wpAny_mono ((hsu a oe cls d (X.pn ++ pins) z hv).run [] _ _ H D S (yes rfl a k.na)) (fun f s6 q => suite_end k.inv.ok q) fun _ _ z => z.elim
/-- a clause with a name: the name holds the exception within, and nothing behind -/
def wClAs (K : PySem.W.Frag) (c : Value) (i : Nat) (ts : Addr → Value → Option Addr → TS) (W : Ends → WX) : Ends → WX := fun D cls d σ H =>
  ∃ b, PySem.W.exmOne K cls c = some b ∧ (b = true → ∀ a, H a = none → ts a cls d ⟨fun σ' H' => D.nx (σ'.set i none) H', D.rt, fun σ' H' => D.bk (σ'.set i none) H', fun σ' H' => D.ct (σ'.set i none) H'⟩ (σ.set i (some (.ref a))) H) ∧ (b = false → W D cls d σ H)
theorem does_as (hs : X.stack = X.env :: X.outer) (hf : X.env.frame = some X.env.locals) (hN : X.N.Nodup) (hi : X.N[i]? = some n) (hln : X.env.kindOf n = some .local) (hc : Names X x c)
    (hsu : ∀ (a : Addr) (oe : Obj) (cls : Value) (d : Option Addr) (pn : List (Addr × Obj)), Zc cls d oe → (∃ vs, oe.data = .fields vs) → PSs (X.suite a ((a, oe) :: pn)) (b₀ :: suite) (ts a cls d)) (r : Does X rest W) :
    Does X (.ExceptHandler (some (.Name x np)) (some n) (b₀ :: suite) pos' :: rest) (wClAs X.K c i ts W) := by
  intro pins D B a cls d σ H sI s h3 k ⟨b, hb, yes, no⟩
  refine wpAny_handleBy_cons (codeAny_handlers_test (k.test hs hf hc hb ?_)) (fun z => by cases z)
  cases b with
  | false => exact r pins D B a cls d σ H sI s h3 k (no rfl)
  | true =>
    refine codeAny_handlers_suite_as (HandSPX.lands_againZ k.fl fun h4 fl4 up4 => ?_)
    obtain ⟨oe, z, hv, _, S⟩ := (k.again fl4 up4).in hs hf
    refine store_ok (X := X.suite a ((a, oe) :: (X.pn ++ pins))) (v := .ref a) S hN hi (.inl hln) rfl (fun s5 S5 => ?_) (.inr hln)
    refine wpAny_mono ((hsu a oe cls d (X.pn ++ pins) z hv).run [] s5 _ H _ S5 (yes rfl a k.na)) (fun f s6 q => ?_) fun _ _ z => z.elim
    have q' := suite_end (X := X) k.inv.ok q
    cases f with
    | ret u => exact let ⟨v, σ', H', J, e, q⟩ := q'; gone_ok J hN hi hln fun s7 J7 => ⟨v, _, H', J7, e, q⟩
    | next => exact let ⟨σ', H', J, q⟩ := q'; gone_ok J hN hi hln fun s7 J7 => ⟨_, H', J7, q⟩
    | brk => exact let ⟨σ', H', J, q⟩ := q'; gone_ok J hN hi hln fun s7 J7 => ⟨_, H', J7, q⟩
    | cont => exact let ⟨σ', H', J, q⟩ := q'; gone_ok J hN hi hln fun s7 J7 => ⟨_, H', J7, q⟩
end
section
variable {X : Cx} {body : List Stmt} {h₀ : ExceptHandler} {hds : List ExceptHandler} {pos : Pos} {tb : WX → TS} {W : Ends → WX}
theorem ps_try_by (hs : X.stack = X.env :: X.outer) (hf : X.env.frame = some X.env.locals)
    (hb : ∀ (W : WX) (pn : List (Addr × Obj)) (xe : Value → Shared → Prop), Takes (X.tr pn xe) W → PassesOwn (model X.prog X.w) X.A X.env xe → PSs (X.tr pn xe) body (tb W))
    (dz : Does X (h₀ :: hds) W) : PS X (.Try body (h₀ :: hds) [] [] pos) (fun D σ H => tb (W D) D σ H) := by
  refine ⟨fun pins s σ H D I h => wpAny_Try_except (wpAny_mono ((hb (W D) (X.pn ++ pins) _ (fun u s1 xx => ?_) PassesOwn.looking).run [] s σ H D (I.toTry _) h) (fun f s1 q => ?_) fun e s1 he => he)⟩
  · obtain ⟨a, B, sI, pins', σ', H', cls, d, rfl, J, nb, up, sky, na, os, ag, w⟩ := xx
    have J1 : Inv X pins σ' H' sI := J.ofTry I.ok
    show wpAny _ X.A (noteFrame (.ref a) X.env) _ _ _
    refine Sky.land Zc.steady (by rw [I.ok.frames, hs]) hf (by rw [← hs]; exact sky) fun h3 fl3 up3 => ?_
    exact dz pins D B a cls d σ' H' sI s1 h3 ⟨J1, nb, fl3, up.trans up3, na, os, ag⟩ w
  · have leave : ∀ {xe : Value → Shared → Prop} {σ' : L2.St} {H' : Hp}, Inv (X.tr (X.pn ++ pins) xe) [] σ' H' s1 → Inv X pins σ' H' s1 := fun J => J.ofTry I.ok
    cases f with
    | ret u => exact let ⟨v, σ', H', J, r, z⟩ := q; ⟨v, σ', H', leave J, r, z⟩
    | next => exact let ⟨σ', H', J, z⟩ := q; wpAny_execs_nil ⟨σ', H', leave J, z⟩
    | brk => exact let ⟨σ', H', J, z⟩ := q; ⟨σ', H', leave J, z⟩
    | cont => exact let ⟨σ', H', J, z⟩ := q; ⟨σ', H', leave J, z⟩
end
end TRY
set_option Elab.async false
set_option linter.all false
set_option maxRecDepth 100000
set_option maxHeartbeats 4000000
namespace WK
open PySem L2 PyProof.Rows
def top (i : Nat) : Stmt := PySem.Challenge.pw_watchkinds_k10_errors_of_boxes.main.body.getD i (.Pass ⟨0, 0, 0, 0⟩)
abbrev sDice : Stmt := top 88
abbrev sRoll : Stmt := top 89
abbrev sOne : Stmt := top 90
/-- a power of any two numbers of which the result is not too long -/
def CPowW (i j : Int) : Prop := 0 ≤ j ∧ (Builtin.Int.intBits i : Int) * j ≤ 2 ^ 27
theorem op_powW {X : Cx} : OpR X (binaryOp .Pow) (rI CPowW fun i j => .int (i ^ j.toNat)) := opI fun _ _ _ _ _ _ _ hc q => pow_int hc.1 hc.2 q
/-- the dice stand at p -/
def DiceAt (H : Hp) (p : Addr) : Prop := ∃ a b c : Int, H p = some (.lst [.int a, .int b, .int c]) ∧ 0 ≤ a ∧ 0 ≤ b ∧ 0 ≤ c
/-- all that was tracked stands, but for what is at p -/
def But (p : Addr) (H H' : Hp) : Prop := ∀ b o, H b = some o → b ≠ p → H' b = some o
theorem But.refl (p : Addr) (H : Hp) : But p H H := fun _ _ h _ => h
theorem But.trans {p : Addr} {H H1 H2 : Hp} (a : But p H H1) (b : But p H1 H2) : But p H H2 := fun c o h n => b c o (a c o h n) n
theorem But.ofSame {p : Addr} {H H' : Hp} (s : Same H H') : But p H H' := fun b o h _ => s b o h
theorem But.upd {p : Addr} {H : Hp} {o : HO} : But p H (upd H p o) := fun b u h n => by rw [upd_ne n]; exact h
/-- law's number of a cell -/
def big : Int := (10 ^ 60) ^ 10
theorem big_pos : 0 < big := by decide +kernel
def spDice (K : PySem.W.Frag) : Sp := fun vs H Q _ => ∃ (s : Addr) (ns : List Int) (k : Int), vs = [.ref s, .int k] ∧ SqL K H s (ns.map V.int) ∧ 0 ≤ k ∧
  ∀ (p : Addr) (H' : Hp), H p = none → Same H H' → DiceAt H' p → Q (.ref p) H'
def spRoll : Sp := fun vs H Q _ => ∃ (p : Addr) (n : Int), vs = [.ref p, .int n] ∧ DiceAt H p ∧ 0 < n ∧ n < 1073741824 ∧
  ∀ (r : Int) (H' : Hp), 0 ≤ r → r < n → DiceAt H' p → But p H H' → Q (.int r) H'
def spOne : Sp := fun vs H Q _ => ∃ (p q : Addr) (xs : List V), vs = [.ref p, .ref q] ∧ DiceAt H p ∧ q ≠ p ∧ H q = some (.lst xs) ∧ 0 < xs.length ∧ xs.length < 1000000 ∧
  ∀ (v : V) (H' : Hp), v ∈ xs → DiceAt H' p → But p H H' → Q v H'
structure TDice (mg : Str → Option Value) : Prop where
  len : mg "len" = none
  int : mg "int" = none
  abs : mg "abs" = none
section
variable {P : Program} {w : World} {K : PySem.W.Frag} {mg : Str → Option Value} {base : Heap}
theorem scD : FnScope ["_law_script", "_law_at", "_law_cell", "_law_great", "_law_left", "_law_mixed"] ["_law_script", "_law_at"] (defScope sDice) := ⟨rfl, rfl, rfl, by decide +kernel, rfl, by decide +kernel, by decide +kernel⟩
theorem ok_dice {f : Addr} {fd : FuncData} (F : Fun K "_law_dice" "_law_dice" sDice f fd) (T : TDice mg) : FnOk P w K mg base CX0 1 f fd ["_law_script", "_law_at"] (spDice K) := by
  refine F.ok scD (fun vs H Q E h => ?_) (fun cdv A outer s H vs Q E hr h => ?_)
  · obtain ⟨s, ns, k, rfl, _⟩ := h
    rfl
  · obtain ⟨s, ns, k, rfl, hS, hk, q⟩ := h
    refine ⟨_, pss_cons (ps_set (i := 2) scD.nd rfl (Or.inl rfl) (pe_op op_add (pe_op op_mul pe_int (pv 1)) pe_int))
      (C8.pss_cut (ps_if (pt_cmpR op_lt (pv 1) (pe_callB call_len_seq (by rfl) T.len PySem.boot_len (pa_cons (pv 0) pa_nil)) (nomark _))
        (pss_one (ps_set (i := 2) scD.nd rfl (Or.inl rfl) (pe_ix ix_list (pv 0) (pv 1) (fun _ _ => rfl)))) pss_nil)
      (pss_cons (ps_set (i := 3) scD.nd rfl (Or.inl rfl) (pe_op op_mod (pe_callTy call_int1 (by rfl) T.int (by decide +kernel) (pa_cons (pe_callB call_abs (by rfl) T.abs (by decide +kernel) (pa_cons (pv 2) pa_nil)) pa_nil)) (pe_op op_powW (pe_op op_pow pe_int pe_int) pe_int)))
      (pss_cons (ps_set (i := 4) scD.nd rfl (Or.inl rfl) (pe_op op_fdivW (pv 3) (pe_op op_pow pe_int pe_int)))
      (pss_cons (ps_set (i := 5) scD.nd rfl (Or.inl rfl) (pe_op op_add (pe_op op_add (pe_op op_add (pe_op op_mul (pe_op op_mod (pv 3) pe_int) pe_int) (pe_op op_mul pe_int (pv 1)))
          (pe_op op_mul pe_int (pe_callTy call_int1 (by rfl) T.int (by decide +kernel) (pa_cons (pe_cmpR op_lt (pv 2) pe_int (nomark _)) pa_nil)))) pe_int))
      (pss_one (ps_ret (pe_lst (pa_cons (pv 4) (pa_cons (pe_op op_mod (pv 5) pe_int) (pa_cons pe_int pa_nil)))))))))), ?_⟩
    refine ⟨_, rfl, _, _, rfl, rfl, .inl ⟨by decide, by decide⟩, _, _, rfl, rfl, ?_⟩
    -- behind the if: some cell
    refine ⟨fun σ H' => H' = H ∧ ∃ c : Int, σ = [some (.ref s), some (.int k), some (.int c), none, none, none], ?_, ?_⟩
    · refine ⟨_, rfl, _, rfl, s, _, rfl, .inl hS, _, _, rfl, rfl, _, rfl, ?_⟩
      refine ite2 (fun hc => ?_) (fun _ => ?_)
      · have hl : k < ((ns.map V.int).length : Int) := of_decide_eq_true hc
        rw [List.length_map] at hl
        have hj : k.toNat < ns.length := by omega
        have e1 : (ns.map V.int)[k.toNat]? = some (V.int ns[k.toNat]) := by
          rw [List.getElem?_map, List.getElem?_eq_getElem hj]
          rfl
        have e2 := atI_nat e1
        rw [Int.toNat_of_nonneg hk] at e2
        exact ⟨_, rfl, _, rfl, s, _, _, _, rfl, rfl, hS, e2, rfl, _, rfl⟩
      · exact ⟨rfl, _, rfl⟩
    · rintro σ H' ⟨rfl, c, rfl⟩
      refine ⟨_, rfl, _, rfl, .inl ⟨_, rfl, ?_⟩⟩
      refine ⟨_, _, rfl, rfl, ⟨by decide, by decide, by decide +kernel⟩, _, _, rfl, rfl, ⟨by decide, by decide +kernel⟩, _, _, rfl, rfl, big_pos, ?_⟩
      refine ⟨_, rfl, _, _, rfl, rfl, ⟨by decide, by decide, by decide +kernel⟩, _, _, rfl, rfl, wide_div (b := 64) (by decide +kernel) (by decide +kernel) (by decide) (by decide), ?_⟩
      refine ⟨_, rfl, _, _, rfl, rfl, (by show (0 : Int) < 2147483059; decide), _, _, rfl, rfl, .inr ⟨by decide, by decide⟩, _, rfl, _, _, rfl, rfl, .inl ⟨by decide, by decide⟩, _, _, rfl, rfl, ?_⟩
      refine ⟨_, rfl, _, _, rfl, rfl, .inr ⟨_, rfl, ?_⟩⟩
      refine ⟨_, _, rfl, rfl, .inl ⟨by decide, by decide⟩, _, _, rfl, rfl, _, _, rfl, rfl, ?_⟩
      refine ⟨_, rfl, _, rfl, _, _, rfl, rfl, (by show (0 : Int) < 2147483053; decide), (by show 3 ≤ sizeLine; decide), fun p hp => q p _ hp (fun b o e => by rw [upd_ne (ne_of_none e hp)]; exact e) ⟨_, _, _, upd_same, ?_, ?_, Int.le_refl 0⟩⟩
      · exact Int.ediv_nonneg (Int.emod_nonneg _ (Int.ne_of_gt big_pos)) (by decide)
      · exact Int.emod_nonneg _ (by decide)
/-- of a roll -/
theorem scR : FnScope ["_law_dice_here", "_law_total", "_law_number", "_law_drawn", "_law_one", "_law_two"] ["_law_dice_here", "_law_total"] (defScope sRoll) := ⟨rfl, rfl, rfl, by decide +kernel, rfl, by decide +kernel, by decide +kernel⟩
theorem ok_roll {f : Addr} {fd : FuncData} (F : Fun K "_law_roll" "_law_roll" sRoll f fd) (T : TDice mg) : FnOk P w K mg base CX0 1 f fd ["_law_dice_here", "_law_total"] spRoll := by
  refine F.ok scR (fun vs H Q E h => ?_) (fun cdv A outer s H vs Q E hr h => ?_)
  · obtain ⟨p, n, rfl, _⟩ := h
    rfl
  · obtain ⟨p, n, rfl, ⟨a, b, c, hD, ha, hb, hc⟩, hn, hn2, q⟩ := h
    refine ⟨_, pss_cons (ps_set (i := 2) scR.nd rfl (Or.inl rfl) (pe_callTy call_int1 (by rfl) T.int (by decide +kernel) (pa_cons (pv 1) pa_nil)))
      (pss_cons (ps_if (pt_cmpR op_gt (pe_ix ix_list (pv 0) pe_int (fun _ _ => rfl)) pe_int (nomark _))
        (pss_cons (ps_set (i := 3) scR.nd rfl (Or.inl rfl) (pe_op op_mod (pe_ix ix_list (pv 0) pe_int (fun _ _ => rfl)) (pv 2)))
        (pss_cons (ps_asg (pe_op op_fdiv (pe_ix ix_list (pv 0) pe_int (fun _ _ => rfl)) (pv 2)) (pg_sub (pv 0) pe_int set_list))
        (pss_one (ps_ret (pe_callTy call_int1 (by rfl) T.int (by decide +kernel) (pa_cons (pv 3) pa_nil)))))) pss_nil)
      (pss_cons (ps_asg (pe_op op_add (pe_ix ix_list (pv 0) pe_int (fun _ _ => rfl)) pe_int) (pg_sub (pv 0) pe_int set_list))
      (pss_cons (ps_set (i := 4) scR.nd rfl (Or.inl rfl) (pe_op op_mod (pe_op op_add (pe_ix ix_list (pv 0) pe_int (fun _ _ => rfl)) (pe_op op_mul pe_int (pe_ix ix_list (pv 0) pe_int (fun _ _ => rfl)))) pe_int))
      (pss_cons (ps_set (i := 5) scR.nd rfl (Or.inl rfl) (pe_op op_add (pe_op op_mul (pe_op op_mod (pe_op op_mul (pv 4) (pv 4)) pe_int) (pv 4)) (pe_op op_mul pe_int (pe_ix ix_list (pv 0) pe_int (fun _ _ => rfl)))))
      (pss_cons (ps_set (i := 5) scR.nd rfl (Or.inl rfl) (pe_op op_mod (pv 5) pe_int))
      (pss_one (ps_ret (pe_callTy call_int1 (by rfl) T.int (by decide +kernel) (pa_cons (pe_op op_mod (pe_op op_fdiv (pv 5) pe_int) (pv 2)) pa_nil))))))))), ?_⟩
    refine ⟨_, rfl, .inl ⟨_, rfl, ?_⟩⟩
    refine ⟨_, rfl, p, _, _, _, rfl, rfl, SqL.of hD, atI_nat (j := 0) rfl, _, _, rfl, rfl, _, rfl, ?_⟩
    refine ite2 (fun hc' => ?_) (fun hc' => ?_)
    · refine ⟨_, rfl, p, _, _, _, rfl, rfl, SqL.of hD, atI_nat (j := 0) rfl, _, rfl, _, _, rfl, rfl, hn, ?_⟩
      refine ⟨_, rfl, p, _, _, _, rfl, rfl, SqL.of hD, atI_nat (j := 0) rfl, _, rfl, _, _, rfl, rfl, ⟨hn, hn2⟩, ?_⟩
      refine ⟨_, rfl, p, _, _, 0, rfl, rfl, hD, rfl, ?_⟩
      refine ⟨_, rfl, .inl ⟨_, rfl, ?_⟩⟩
      exact q _ _ (Int.emod_nonneg _ (Int.ne_of_gt hn)) (Int.emod_lt_of_pos _ hn) ⟨_, _, _, upd_same, Int.ediv_nonneg ha (Int.le_of_lt hn), hb, hc⟩ But.upd
    · refine ⟨_, rfl, p, _, _, _, rfl, rfl, SqL.of hD, atI_nat (j := 2) rfl, _, _, rfl, rfl, _, rfl, p, _, _, 2, rfl, rfl, hD, rfl, ?_⟩
      have h2 : (upd H p (.lst [.int a, .int b, .int (c + 1)])) p = some (.lst [.int a, .int b, .int (c + 1)]) := upd_same
      refine ⟨_, rfl, p, _, _, _, rfl, rfl, SqL.of h2, atI_nat (j := 1) rfl, _, rfl, p, _, _, _, rfl, rfl, SqL.of h2, atI_nat (j := 2) rfl, _, _, rfl, rfl, .inl ⟨by decide, by decide⟩, _, _, rfl, rfl, _, _, rfl, rfl, (by show (0 : Int) < 2305843009213693951; decide), ?_⟩
      have one0 : ∀ x : Int, -(2 ^ 64) < x % 2305843009213693951 ∧ x % 2305843009213693951 < 2 ^ 64 := fun x => by
        have l := Int.emod_nonneg x (show (2305843009213693951 : Int) ≠ 0 by decide)
        have u := Int.emod_lt_of_pos x (show (0 : Int) < 2305843009213693951 by decide)
        exact ⟨by omega, by omega⟩
      refine ⟨_, rfl, _, rfl, _, _, rfl, rfl, .inl (one0 _), _, _, rfl, rfl, (by show (0 : Int) < 2305843009213693921; decide), _, rfl, _, _, rfl, rfl, .inr (one0 _), _, rfl, p, _, _, _, rfl, rfl, SqL.of h2, atI_nat (j := 2) rfl, _, _, rfl, rfl, .inl ⟨by decide, by decide⟩, _, _, rfl, rfl, ?_⟩
      refine ⟨_, rfl, _, _, rfl, rfl, (by show (0 : Int) < 2305843009213693907; decide), ?_⟩
      refine ⟨_, rfl, _, _, rfl, rfl, ⟨by decide, by decide⟩, _, rfl, _, _, rfl, rfl, hn, .inl ⟨_, rfl, ?_⟩⟩
      exact q _ _ (Int.emod_nonneg _ (Int.ne_of_gt hn)) (Int.emod_lt_of_pos _ hn) ⟨_, _, _, upd_same, ha, hb, by omega⟩ But.upd
theorem scO : FnScope ["_law_dice_here", "_law_items"] ["_law_dice_here", "_law_items"] (defScope sOne) := ⟨rfl, rfl, rfl, by decide +kernel, rfl, by decide +kernel, by decide +kernel⟩
theorem ok_one {f fR : Addr} {fd fdR : FuncData} (F : Fun K "_law_one_of" "_law_one_of" sOne f fd) (T : TDice mg) (gR : mg "_law_roll" = some (.ref fR)) (FR : Fun K "_law_roll" "_law_roll" sRoll fR fdR) (bR : Binds K fdR ["_law_dice_here", "_law_total"] []) :
    FnOk P w K mg base CX0 2 f fd ["_law_dice_here", "_law_items"] spOne := by
  have GR : FnOk P w K mg base CX0 1 fR fdR ["_law_dice_here", "_law_total"] spRoll := ok_roll FR T
  refine F.ok scO (fun vs H Q E h => ?_) (fun cdv A outer s H vs Q E hr h => ?_)
  · obtain ⟨p, n, _, rfl, _⟩ := h
    rfl
  · obtain ⟨p, a, xs, rfl, hD, hne, hx, h0, h1, q⟩ := h
    refine ⟨_, pss_one (ps_ret (pe_ix ix_list (pv 1) (pe_call GR hr rfl gR FR.kp bR .nil pass0 (pa_cons (pv 0) (pa_cons (pe_callB call_len_seq (by rfl) T.len PySem.boot_len (pa_cons (pv 1) pa_nil)) pa_nil))) (fun _ _ => rfl))), ?_⟩
    refine ⟨_, rfl, _, rfl, _, rfl, a, _, rfl, .inl (SqL.of hx), p, _, rfl, hD, by omega, by omega, fun r H' hr0 hr1 hD' hB => ?_⟩
    have hj : r.toNat < xs.length := by omega
    have e1 : xs[r.toNat]? = some xs[r.toNat] := List.getElem?_eq_getElem hj
    have e2 := atI_nat e1
    rw [Int.toNat_of_nonneg hr0] at e2
    exact ⟨a, _, _, _, rfl, rfl, SqL.of (hB _ _ hx hne), e2, q _ _ (List.getElem_mem hj) hD' hB⟩
end
end WK
set_option Elab.async false
set_option linter.all false
set_option maxRecDepth 100000
set_option maxHeartbeats 4000000
namespace TX
open PySem PySem.Spec PyProof.Rows L2
/-- the text of an entry -/
def txOf (e : Int × Value) : Str := strOf e.2
def GoodX (w : World) (e : Int × Value) : Prop := ∃ k tk, e.2 = Value.str k tk ∧ e.1 = hashStr w k
/-- what holds of the entries of a set of texts, whatever object bears them: T says its members -/
structure Fine (w : World) (T : Str → Bool) (es : Array (Int × Value)) (t : SetTable) : Prop where
  good : ∀ e ∈ es.toList, GoodX w e
  once : (es.toList.map txOf).Nodup
  mem : ∀ k, T k = true ↔ k ∈ es.toList.map txOf
  few : es.size < scanBound
  fit : t.fits es.size = true
  ris : Ris t.place.toList
  led : t.led = true ∨ w.params.followText "set-order" = true
/-- a set of n texts at a -/
structure SetX (w : World) (h : Heap) (a : Addr) (T : Str → Bool) (n : Nat) (o : Obj) (es : Array (Int × Value)) (ep : Nat) (t : SetTable) : Prop where
  ob : h.get? a = some o
  ex : o.ExactSet
  dat : o.data = .set es ep t
  sz : es.size = n
  fine : Fine w T es t
def HasX (w : World) (h : Heap) (a : Addr) (T : Str → Bool) (n : Nat) : Prop := ∃ o es ep t, SetX w h a T n o es ep t
section
variable {P : Program} {w : World} {h h' : Heap} {a : Addr} {T : Str → Bool} {n : Nat}
theorem HasX.at (R : HasX w h a T n) (k : ∀ o, h.get? a = some o → h'.get? a = some o) : HasX w h' a T n := by
  obtain ⟨o, es, ep, t, r⟩ := R
  exact ⟨o, es, ep, t, { r with ob := k o r.ob }⟩
theorem good_elems {l : List (Int × Value)} (g : ∀ e ∈ l, GoodX w e) : ElemsOf (PySem.strKind P w) l := fun e at_e =>
  match e, g e at_e with
  | (_, _), ⟨k, tk, rfl, hash⟩ => ⟨⟨k, Froz.is_str k tk, hash⟩, by rfl⟩
theorem good_is {e : Int × Value} (g : GoodX w e) (k : Str) : (PySem.strKind P w).is k e.2 = true ↔ txOf e = k :=
  match e, g with
  | (_, _), ⟨j, tk, rfl, _⟩ => ⟨fun q => (PySem.strKind P w).inj (.str j tk) j k (Froz.is_str j tk) q, fun q => q ▸ Froz.is_str j tk⟩
/-- the scan of the entries finds a text just where T says so -/
theorem Fine.look {es : Array (Int × Value)} {t : SetTable} (F : Fine w T es t) (k : Str) : (es.toList.findIdx? fun e => (PySem.strKind P w).is k e.2).isSome = T k := by
  rw [List.findIdx?_isSome, Bool.eq_iff_iff, List.any_eq_true, F.mem k, List.mem_map]
  exact ⟨fun ⟨e, at_e, q⟩ => ⟨e, at_e, (good_is (F.good e at_e) k).mp q⟩, fun ⟨e, at_e, q⟩ => ⟨e, at_e, (good_is (F.good e at_e) k).mpr q⟩⟩
theorem Fine.moved {es fs : Array (Int × Value)} {t u : SetTable} (F : Fine w T es t) (p : fs.toList.Perm es.toList) (fit : u.fits fs.size = true) (ris : Ris u.place.toList) (led : u.led = t.led) : Fine w T fs u ∧ fs.size = es.size := by
  have size := p.length_eq
  rw [Array.length_toList, Array.length_toList] at size
  exact ⟨⟨fun e at_e => F.good e (p.mem_iff.mp at_e), (p.map txOf).nodup_iff.mpr F.once, fun k => (F.mem k).trans (p.map txOf).mem_iff.symm, size ▸ F.few, fit, ris, led ▸ F.led⟩, size⟩
theorem Fine.more {es fs : Array (Int × Value)} {t u : SetTable} {k : Str} {tk : Tok} (F : Fine w T es t) (out : T k = false) (room : es.size + 1 < scanBound)
    (p : fs.toList.Perm (es.push ((PySem.strKind P w).hash k, .str k tk)).toList) (fit : u.fits fs.size = true) (ris : Ris u.place.toList) (led : u.led = t.led) :
    Fine w (fun j => T j || decide (j = k)) fs u ∧ fs.size = es.size + 1 := by
  have pe : fs.toList.Perm (((PySem.strKind P w).hash k, Value.str k tk) :: es.toList) := p.trans (by rw [Array.toList_push]; exact List.perm_append_singleton _ _)
  have pt : (fs.toList.map txOf).Perm (k :: es.toList.map txOf) := pe.map txOf
  have size := pe.length_eq
  rw [List.length_cons, Array.length_toList, Array.length_toList] at size
  refine ⟨⟨fun e at_e => ?_, pt.nodup_iff.mpr (List.nodup_cons.mpr ⟨fun z => ?_, F.once⟩), fun j => ?_, size ▸ room, fit, ris, led ▸ F.led⟩, size⟩
  · cases pe.mem_iff.mp at_e with
    | head => exact ⟨k, tk, rfl, rfl⟩
    | tail _ old => exact F.good e old
  · exact Bool.false_ne_true (out.symm.trans ((F.mem k).mpr z))
  · simp only [pt.mem_iff, List.mem_cons, Bool.or_eq_true, decide_eq_true_eq, F.mem j]
    exact Or.comm
theorem Fine.plainOff {es : Array (Int × Value)} {t : SetTable} (F : Fine w T es t) : Fine w T es { t with plain := false } := { F with fit := SetTable.fits_plain_off F.fit }
end
section
variable {P : Program} {w : World} {A : Around} {E : Value → Shared → Prop} {s : Shared} {a : Addr} {T : Str → Bool} {n : Nat}
/-- the entries are laid down, and laid anew where the table is too full -/
theorem lay {g : Bool → Sem Unit} (calm : ∀ (b : Bool) (r : Shared) (K : Unit → Shared → Prop), K () r → wpAny (model P w) A (g b) K E r) {o : Obj} {es fs : Array (Int × Value)} {ep : Nat} {t u : SetTable}
    (ob : s.heap.get? a = some o) (ex : o.ExactSet) (dat : o.data = .set es ep t) (F : Fine w T fs u) {again : Bool} {R : Option Bool → Shared → Prop}
    (done : ∀ k, Heap.SameBut a s.heap k → HasX w k a T fs.size → R (some true) { s with heap := k }) :
    wpAny (model P w) A (storeSet a fs u >>= fun _ => if (!again && u.tooFull) = true then
        g (relayAll u fs (SetTable.grown fs.size)).2.2 >>= fun _ => storeSet a (relayAll u fs (SetTable.grown fs.size)).1 (relayAll u fs (SetTable.grown fs.size)).2.1 >>= fun _ => pure (some true)
      else pure (some true)) R E s := by
  have same1 := Heap.SameBut.update s.heap a (Obj.putSet fs u)
  have at1 := store_at (es' := fs) (t' := u) ob dat
  refine wpAny_bind (wpAny_storeSet_of ob dat ?_ (fits_of_scanBound F.few))
  by_cases full : (!again && u.tooFull) = true
  · rw [if_pos full]
    obtain ⟨F2, size2⟩ := F.moved (relayAll_perm u fs (SetTable.grown fs.size)) (relayAll_fits u fs _) (relayAll_ris u fs _) (relayAll_led u fs _)
    exact wpAny_bind (calm _ _ _ (wpAny_bind (wpAny_storeSet_of at1 rfl (wpAny_pure (done _ (same1.trans (Heap.SameBut.update _ a _)) ⟨_, _, _, _, store_at at1 rfl, ex, rfl, size2, F2⟩)) (fits_of_scanBound F2.few))))
  · rw [if_neg full]
    exact wpAny_pure (done _ same1 ⟨_, fs, _, u, at1, ex, rfl, rfl, F⟩)
theorem add {k : Str} {tk : Tok} {Q : Bool → Shared → Prop} (R : HasX w s.heap a T n) (room : n + 1 < scanBound)
    (hQ : ∀ h', Heap.SameBut a s.heap h' → HasX w h' a (fun j => T j || decide (j = k)) (if T k = true then n else n + 1) → Q (!T k) { s with heap := h' }) :
    wpAny (model P w) A (setAddHashed a (.str k tk) ((PySem.strKind P w).hash k)) Q E s := by
  obtain ⟨o, es, ep, t, ob, ex, dat, rfl, F⟩ := R
  have scans : (Value.str k tk).scannable = true := rfl
  have els := good_elems (P := P) F.good
  have calm : ∀ (b : Bool) (r : Shared) (K : Unit → Shared → Prop), K () r → wpAny (model P w) A (match b with | true => rule "set.scan.the-table-gave-way" | false => pure ()) K E r
    | true, _, _, q => wpAny_rule q
    | false, _, _, q => wpAny_pure q
  unfold setAddHashed; unfold setAddHashedIn
  refine wpAny_holding (wpAny_bind (wpAny_setState_of ob dat F.fit ?_))
  simp only [byScan_of scans F.few els, ↓reduceIte]
  unfold setAddByScan
  refine wpAny_bind (wpAny_bind (wpAny_rule (wpAny_bind (wpAny_setScan_of (Froz.is_str k tk) ob dat F.fit els ?_))))
  have seen := F.look (P := P) k
  cases found : es.toList.findIdx? (fun e => (PySem.strKind P w).is k e.2) with
  | some j =>
    rw [found] at seen
    have inT : T k = true := seen.symm
    have q := hQ s.heap (Heap.SameBut.refl a s.heap) ⟨o, es, ep, t, ob, ex, dat, (if_pos inT).symm, { F with mem := fun i => (F.mem i).symm.trans ?_ |>.symm }⟩
    · rw [inT] at q
      exact wpAny_pure (wpAny_pure q)
    · simp only [Bool.or_eq_true, decide_eq_true_eq]
      exact ⟨.inl, fun z => z.elim id fun e => e ▸ inT⟩
  | none =>
    rw [found] at seen
    have out : T k = false := seen.symm
    have F1 := F.more (P := P) (k := k) (tk := tk) out room (layNew_perm t es _ _) (layNew_fits t es _ _) (layNew_ris t es _ _ F.ris) (layNew_led t es _ _)
    revert F1
    generalize layNew t es ((PySem.strKind P w).hash k) (.str k tk) = Z
    rcases Z with ⟨fs, u, again, gave⟩
    rintro ⟨F1, size1⟩
    have fin : ∀ g, Heap.SameBut a s.heap g → HasX w g a (fun j => T j || decide (j = k)) fs.size → Q true { s with heap := g } := fun g same r => by
      have q := hQ g same
      simp only [out, Bool.false_eq_true, if_false, Bool.not_false] at q
      exact q (size1 ▸ r)
    dsimp only
    refine wpAny_bind (calm _ _ _ ?_)
    split
    · rw [hashByValue_scannable 8 scans]
      refine wpAny_bind (wpAny_pure (lay (T := fun j => T j || decide (j = k)) ?_ ob ex dat ?_ fun g same r => ?_))
      · exact fun b r K q => by cases b <;> first | exact wpAny_rule q | exact wpAny_pure q
      · first | exact F1 | (split <;> first | exact F1 | exact F1.plainOff)
      · dsimp only
        exact wpAny_pure (fin g same r)
    · refine wpAny_bind (wpAny_pure ?_)
      simp only [↓reduceIte]
      refine lay (T := fun j => T j || decide (j = k)) ?_ ob ex dat F1 fun g same r => ?_
      · exact fun b r K q => by cases b <;> first | exact wpAny_rule q | exact wpAny_pure q
      · dsimp only
        exact wpAny_pure (fin g same r)
end
/-- a set as it is made -/
abbrev newSet (w : World) : Obj := { cls := .type "set", dict := none, data := .set #[] 0 (.fresh 0 0 (!w.params.followText "set-order")) }
theorem fresh {h : Heap} (w : World) : HasX w (h.push (newSet w)) h.objs.size (fun _ => false) 0 := by
  refine ⟨_, #[], 0, _, Heap.get?_push_size _ rfl, ⟨rfl, rfl, rfl⟩, rfl, rfl, ⟨fun e at_e => by simp at at_e, by simp, fun k => by simp, by decide, by rfl, List.Pairwise.nil, ?_⟩⟩
  show (!w.params.followText "set-order") = true ∨ _
  cases w.params.followText "set-order" <;> simp
section
variable {prog : Program} {w : World} {A : Around} {R : Result → Shared → Prop} {I : Addr} {fp wr : List Addr} {n : Nat} {x : Str} {St : Nat → Heap → Prop}
/-- the signs of a text, one after the other, into the set: left of them are still to come -/
theorem loop (W : Walks prog w A.in1 I fp wr n (SignAt x) St) (hn : n = x.cps.size) (S : Addr) (away : S ∉ fp) (room : n + 1 < scanBound) :
    ∀ (left i : Nat) (s : Shared) (T : Str → Bool) (c : Nat), n - i = left → i ≤ n → St i s.heap → HasX w s.heap S T c → c ≤ i →
      (∀ g tk T' c', HasX w g S T' c' → c' ≤ n → (∀ k, T' k = (T k || (x.cps.toList.drop i).any fun z => decide (k = ⟨#[z]⟩))) → (∀ b q, b ∉ S :: wr → s.heap.get? b = some q → g.get? b = some q) →
        R (.ok (.ret .none)) { s with heap := g, toks := tk }) →
      codeAny (model prog w) A (.builtin "set.update.loop" ⟨[.ref S, .ref I], []⟩) R s := by
  have apart : S ∉ wr := fun z => away (W.sub _ z)
  intro left
  induction left with
  | zero =>
    intro i s T c hm hi st isSet hc done
    obtain rfl : i = n := by omega
    refine codeAny_builtin PyProof.Rows.F.entry_set_update_loop (Around.under_plainId PyProof.Rows.F.plain_set_update_loop _ ▸ wpAny_bind (m := pyNext (.ref I)) (W.done s _ _ st fun g tk keep => ?_))
    refine wpAny_pure (done g tk T c (isSet.at fun q at_S => keep S q apart at_S) hc (fun k => ?_) fun b q nb at_b => keep b q (fun z => nb (.tail _ z)) at_b)
    rw [List.drop_of_length_le (by rw [hn]; simp)]
    simp
  | succ left ih =>
    intro i s T c hm hi st isSet hc done
    have more : i < n := by omega
    refine codeAny_builtin PyProof.Rows.F.entry_set_update_loop (Around.under_plainId PyProof.Rows.F.plain_set_update_loop _ ▸ wpAny_bind (m := pyNext (.ref I)) (W.item i s _ _ more st fun v g tk isSign st' keep => ?_))
    obtain ⟨z, t, hz, rfl⟩ := isSign
    refine wpAny_bind (m := holding [Value.str ⟨#[z]⟩ t] (setAdd S (.str ⟨#[z]⟩ t))) (wpAny_holding ?_)
    unfold setAdd
    refine wpAny_holding (wpAny_bind ((PySem.strKind prog w).pyHash (k := ⟨#[z]⟩) (Froz.is_str _ _) ?_))
    refine add (s := { s with heap := g, toks := tk + 1 }) (isSet.at fun q at_S => keep S q apart at_S) (by omega) fun g2 same isSet2 => ?_
    have keep2 : ∀ b q, b ∉ S :: wr → s.heap.get? b = some q → g2.get? b = some q := fun b q nb at_b => (same.2 b fun z => nb (z ▸ List.mem_cons_self)).trans (keep b q (fun z => nb (.tail _ z)) at_b)
    refine wpAny_pure ⟨plainId_quiet PyProof.Rows.F.plain_set_update_loop _, ih (i + 1) { s with heap := g2, toks := tk + 1 } _ _ (by omega) more (W.frame _ g _ st' fun b hb q at_b => ?_) isSet2 (by split <;> omega) fun g3 tk3 T3 c3 r3 l3 m3 k3 => ?_⟩
    · exact (same.2 b fun z : b = S => away (z ▸ hb)).trans at_b
    · refine done g3 tk3 T3 c3 r3 l3 (fun k => ?_) fun b q nb at_b => k3 b q nb (keep2 b q nb at_b)
      rw [m3 k, Fz.drop_at hz, List.any_cons, Bool.or_assoc]
end
section
variable {P : Program} {w : World} {A : Around} {E : Value → Shared → Prop} {s : Shared}
set_option maxHeartbeats 6400000 in
/-- set(text) -/
theorem call_set {x : Str} {t : Tok} {Q : Value → Shared → Prop} (calm : A.handled = none) (room : x.cps.size + 1 < scanBound)
    (h : ∀ (g : Heap) (tk : Nat) T c, HasX w g s.heap.objs.size T c → c ≤ x.cps.size → (∀ k, T k = x.cps.toList.any fun z => decide (k = ⟨#[z]⟩)) → (∀ b q, s.heap.get? b = some q → g.get? b = some q) → Q (.ref s.heap.objs.size) { s with heap := g, toks := tk }) :
    wpAny (model P w) A (call (.type "set") [.str x t]) Q E s := by
  have made := F.called_set.made; have isSub := F.called_set.sub; have noType := F.called_set.notType; have creates := F.called_set.canCreate
  obtain ⟨_, _, _⟩ := F.called_set.mro
  have typeCall := F.typeCall_set_1 (.str x t)
  refine wpAny_call (codeAny_of_tree ?_)
  change wpAny _ _ (callAny (.type "set") _) _ _ s
  refine wpAny_pure (And.intro (Code.quiet_builtin _ (by decide +kernel)) (codeAny_builtin F.entry_type_call ?_))
  rw [Around.under_plain (weight_type_call_type "set" [.str x t] []) rfl]
  repeat any_goals first | assumption | wp_step
  refine codeAny_mono (code_set_led1 (.str x t) (E := E) (Q₁ := fun v r => v = .ref s.heap.objs.size ∧ r = { s with heap := s.heap.push (newSet w) }) ⟨rfl, rfl⟩) fun
    | .error _, _, hr => hr
    | .ok (.ret _), _, ⟨rfl, rfl⟩ => ?_
    | .ok .next, _, hr => hr.elim
    | .ok .brk, _, hr => hr.elim
    | .ok .cont, _, hr => hr.elim
  have isTy : Shared.TypeIs { s with heap := s.heap.push (newSet w) } (.ref s.heap.objs.size) "set" := ⟨_, Heap.get?_push_size _ rfl, rfl⟩
  have found := F.called_set.init.lookup
  have bound := F.called_set.init.bind (.ref s.heap.objs.size)
  repeat any_goals first | assumption | wp_step
  refine codeAny_mono (codeAny_call_builtin (R := wants (fun v r => v = .none ∧ ∃ g tk T c, r = { s with heap := g, toks := tk } ∧ HasX w g s.heap.objs.size T c ∧ c ≤ x.cps.size ∧ (∀ k, T k = x.cps.toList.any fun z => decide (k = ⟨#[z]⟩)) ∧
      ∀ b q, s.heap.get? b = some q → g.get? b = some q) E) F.called_set.init.plain F.entry_set_init (check_set_init_1 isTy ?_)) fun
    | .error _, _, hr => hr
    | .ok (.ret _), _, ⟨rfl, _, _, _, _, rfl, r1, r2, r3, r4⟩ => ?_
    | .ok .next, _, hr => hr.elim
    | .ok .brk, _, hr => hr.elim
    | .ok .cont, _, hr => hr.elim
  · have f1 := F.sub_str_set; have f2 := F.sub_str_frozenset; have f3 := typeIs_str
    have f4 : (Value.type "str" == Value.type "dict") = false := by decide
    unfold Builtin.«set.__init__» noKeywords; unfold Builtin.Frozenset.updateFrom
    generalize asIter : pyIter = PI
    wp_walk
    subst asIter
    have size1 : (s.heap.push (newSet w)).objs.size = s.heap.objs.size + 1 := Heap.size_push ..
    refine wpAny_pyIter_str fun o St W st => wpAny_bind (wpAny_runValue (loop (W _ (by simp [calm])) rfl s.heap.objs.size ?_ room _ 0 _ (fun _ => false) 0 rfl (Nat.zero_le _) st ((fresh w).at fun q at_b => Heap.get?_push_of_some _ at_b) (Nat.le_refl _) fun g tk T c r lc m keep => ?_))
    · rw [List.mem_singleton, size1]
      exact Nat.ne_of_lt (Nat.lt_succ_self _)
    · show wpAny _ _ _ _ _ _
      refine wpAny_pure (wpAny_pure ⟨rfl, g, tk, T, c, rfl, r, lc, fun z => by rw [m z, List.drop_zero, Bool.false_or], fun b q at_b => keep b q ?_ (Heap.get?_push_of_some _ (Heap.get?_push_of_some _ at_b))⟩)
      have below := Heap.lt_size at_b
      simp only [List.mem_cons, List.mem_singleton, List.not_mem_nil, or_false, not_or, size1]
      exact ⟨Nat.ne_of_lt below, Nat.ne_of_lt (Nat.lt_succ_of_lt below)⟩
  · repeat any_goals first | assumption | wp_step
    exact h _ _ _ _ r1 r2 r3 r4
end
end TX
set_option Elab.async false
set_option linter.all false
set_option maxRecDepth 100000
set_option maxHeartbeats 4000000
namespace TX
open PySem PySem.Spec PyProof.Rows L2
def ins (c : Nat) : List Nat → List Nat
  | [] => [c]
  | d :: r => if c < d then c :: d :: r else if c = d then d :: r else d :: ins c r
/-- the numbers of a list, each once, ascending -/
def sigs : List Nat → List Nat
  | [] => []
  | c :: r => ins c (sigs r)
theorem mem_ins (c k : Nat) : ∀ l : List Nat, k ∈ ins c l ↔ k = c ∨ k ∈ l
  | [] => by simp [ins]
  | d :: r => by
    unfold ins
    split
    · simp
    · split
      · rename_i _ e
        subst e
        simp
      · simp only [List.mem_cons, mem_ins c k r]
        exact ⟨fun h => h.elim (fun e => .inr (.inl e)) (fun h => h.elim .inl fun h => .inr (.inr h)), fun h => h.elim (fun e => .inr (.inl e)) fun h => h.elim .inl fun h => .inr (.inr h)⟩
theorem mem_sigs (k : Nat) : ∀ l : List Nat, k ∈ sigs l ↔ k ∈ l
  | [] => Iff.rfl
  | c :: r => by rw [sigs, mem_ins, mem_sigs k r, List.mem_cons]
theorem asc_ins (c : Nat) : ∀ l : List Nat, l.Pairwise (· < ·) → (ins c l).Pairwise (· < ·)
  | [], _ => List.pairwise_singleton ..
  | d :: r, h => by
    have ⟨h1, h2⟩ := List.pairwise_cons.mp h
    unfold ins
    split
    · rename_i q
      exact List.pairwise_cons.mpr ⟨fun y hy => by
        rcases List.mem_cons.mp hy with z | z
        · omega
        · have := h1 y z
          omega, h⟩
    · split
      · exact h
      · refine List.pairwise_cons.mpr ⟨fun y hy => ?_, asc_ins c r h2⟩
        rcases (mem_ins c y r).mp hy with z | z
        · omega
        · exact h1 y z
theorem asc_sigs : ∀ l : List Nat, (sigs l).Pairwise (· < ·)
  | [] => List.Pairwise.nil
  | c :: r => asc_ins c _ (asc_sigs r)
theorem asc_eq : ∀ l m : List Nat, l.Pairwise (· < ·) → m.Pairwise (· < ·) → (∀ k, k ∈ l ↔ k ∈ m) → l = m
  | [], [], _, _, _ => rfl
  | [], d :: m, _, _, h => absurd ((h d).mpr List.mem_cons_self) (by simp)
  | c :: l, [], _, _, h => absurd ((h c).mp List.mem_cons_self) (by simp)
  | c :: l, d :: m, hl, hm, h => by
    obtain ⟨l1, l2⟩ := List.pairwise_cons.mp hl
    obtain ⟨m1, m2⟩ := List.pairwise_cons.mp hm
    have e : c = d := by
      rcases List.mem_cons.mp ((h c).mp List.mem_cons_self) with z | z
      · exact z
      · rcases List.mem_cons.mp ((h d).mpr List.mem_cons_self) with y | y
        · exact y.symm
        · have := l1 d y
          have := m1 c z
          omega
    subst e
    rw [asc_eq l m l2 m2 fun k => ?_]
    constructor
    · intro hk
      rcases List.mem_cons.mp ((h k).mp (List.mem_cons_of_mem _ hk)) with z | z
      · have := l1 k hk
        omega
      · exact z
    · intro hk
      rcases List.mem_cons.mp ((h k).mpr (List.mem_cons_of_mem _ hk)) with z | z
      · have := m1 k hk
        omega
      · exact z
/-- a text of one sign -/
abbrev sg (c : Nat) : Str := ⟨#[c]⟩
def hd1 (x : Str) : Nat := x.cps.toList.headD 0
theorem sg_inj {a b : Nat} (h : sg a = sg b) : a = b := congrArg hd1 h
theorem lt_sg (a b : Nat) : ltCps (sg a).cps.toList (sg b).cps.toList = decide (a < b) := by
  rw [ltCps_eq]
  show decide ([a] < [b]) = decide (a < b)
  by_cases h : a < b
  · rw [decide_eq_true h, decide_eq_true]
    exact List.Lex.rel h
  · rw [decide_eq_false h, decide_eq_false]
    intro q
    cases q with
    | rel r => exact h r
    | cons r => cases r
theorem rising_le : ∀ (l : List Nat) (p : Nat), risingS (sg p) (l.map sg) = true → (p :: l).Pairwise (· ≤ ·)
  | [], p, _ => List.pairwise_singleton ..
  | c :: l, p, h => by
    have h' : (!ltCps (sg c).cps.toList (sg p).cps.toList && risingS (sg c) (l.map sg)) = true := h
    rw [Bool.and_eq_true, lt_sg, Bool.not_eq_true', decide_eq_false_iff_not] at h'
    have ih := rising_le l c h'.2
    obtain ⟨i1, _⟩ := List.pairwise_cons.mp ih
    refine List.pairwise_cons.mpr ⟨fun y hy => ?_, ih⟩
    rcases List.mem_cons.mp hy with z | z
    · omega
    · have := i1 y z
      omega
theorem sorted_le (l : List Nat) (h : sortedS (l.map sg) = true) : l.Pairwise (· ≤ ·) := by
  cases l with
  | nil => exact List.Pairwise.nil
  | cons p r => exact rising_le r p h
theorem lt_of_le : ∀ l : List Nat, l.Pairwise (· ≤ ·) → l.Nodup → l.Pairwise (· < ·)
  | [], _, _ => .nil
  | x :: l, .cons up rest, .cons new once => .cons (fun y at_y => Nat.lt_of_le_of_ne (up y at_y) (new y at_y)) (lt_of_le l rest once)
theorem all_sg : ∀ l : List Str, (∀ x ∈ l, ∃ c, x = sg c) → l = (l.map hd1).map sg
  | [], _ => rfl
  | x :: l, h => by
    obtain ⟨c, rfl⟩ := h x List.mem_cons_self
    rw [List.map_cons, List.map_cons, ← all_sg l fun y hy => h y (List.mem_cons_of_mem _ hy)] <;> rfl
theorem sorted_is {ss : List Str} {l : List Nat} (hs : sortedS ss = true) (hn : ss.Nodup) (hm : ∀ k, k ∈ ss ↔ ∃ z ∈ l, k = sg z) : ss = (sigs l).map sg := by
  have e := all_sg ss fun x hx => let ⟨z, _, q⟩ := (hm x).mp hx; ⟨z, q⟩
  have hn2 : (ss.map hd1).Nodup := by
    rw [e] at hn
    exact (List.pairwise_map.mp hn).imp fun h q => h (by rw [q])
  have hs2 : sortedS ((ss.map hd1).map sg) = true := by rw [← e]; exact hs
  have q : ss.map hd1 = sigs l := by
    refine asc_eq _ _ (lt_of_le _ (sorted_le _ hs2) hn2) (asc_sigs l) fun k => ?_
    rw [mem_sigs, List.mem_map]
    constructor
    · rintro ⟨x, hx, rfl⟩
      obtain ⟨z, hz, rfl⟩ := (hm x).mp hx
      exact hz
    · intro hk
      exact ⟨sg k, (hm _).mpr ⟨k, hk, rfl⟩, rfl⟩
  rw [e, q]
theorem len_sigs (l : List Nat) : (sigs l).length ≤ l.length := by
  induction l with
  | nil => exact Nat.le_refl _
  | cons c r ih =>
    have h : ∀ m : List Nat, (ins c m).length ≤ m.length + 1 := by
      intro m
      induction m with
      | nil => exact Nat.le_refl _
      | cons d m ih2 =>
        unfold ins
        split
        · simp
        · split
          · simp
          · simp only [List.length_cons]
            omega
    show (ins c (sigs r)).length ≤ r.length + 1
    have := h (sigs r)
    omega
section
variable {P : Program} {w : World} {A : Around} {E : Value → Shared → Prop} {s : Shared} {a : Addr}
/-- sorted(the set of the signs of x): its signs, rising -/
theorem sorted_set {x : Str} {T : Str → Bool} {n : Nat} {Q : Value → Shared → Prop} (R : HasX w s.heap a T n) (hT : ∀ k, T k = x.cps.toList.any fun z => decide (k = ⟨#[z]⟩)) (calm : A.handled = none) (h64 : n < 64)
    (hQ : ∀ r p (out : Array Value) (c : Nat), (∀ b q, s.heap.get? b = some q → r.heap.get? b = some q) → r.gens = s.gens → r.os = s.os → s.heap.objs.size ≤ p →
      r.heap.get? p = some (seqObj "list" out c) → StrsAre out.toList ((sigs x.cps.toList).map sg) → Q (.ref p) r) : wpAny (model P w) A (call (.builtin "sorted") [.ref a]) Q E s := by
  obtain ⟨o, es, ep, t, ob, ex, dat, sz, F⟩ := R
  refine Calls.call_function_entry kind_sorted plain_sorted entry_sorted (args_sorted1 _) (wpAny_bind (m := checkCount "sorted" 1 1 _) (wpAny_pure (wpAny_bind ?_)))
  refine collect_set (A := A.in1) calm ⟨o, ob, ex.1, dat⟩ F.fit F.few F.ris F.led.symm fun r vs keep grows gens os perm => ?_
  have count : vs.length = n := by rw [← sz, perm.length_eq, List.length_map, Array.length_toList]
  have texts : StrsAre vs (vs.map strOf) := strsAre_map vs fun v at_v =>
    let ⟨e, at_e, q⟩ := List.mem_map.mp (perm.mem_iff.mp at_v)
    let ⟨k, tk, isStr, _⟩ := F.good e at_e
    ⟨k, tk, q ▸ isStr⟩
  have perm2 : (vs.map strOf).Perm (es.toList.map txOf) := by have := perm.map strOf; rw [List.map_map] at this; exact this
  refine wpAny_bind (wpAny_newList (wpAny_bind ?_) (by have := count; rw [sizeLine_eq]; omega))
  have listAt : (r.heap.push (seqObj "list" vs.toArray 0)).get? r.heap.objs.size = some (seqObj "list" vs.toArray 0) := Heap.get?_push_size _ rfl
  refine wpAny_holding (wpAny_call_entry slot_list_sort ⟨_, listAt, rfl⟩ entry_list_sort (list_sort_treeK (κ := PyProof.Rows.strKind) strKind_oneLt listAt texts.keysOf (fun v₁ v₂ rest e => keyKind_strs (e ▸ texts)) (by omega) fun st done isSorted => ⟨_, rfl, wpAny_pure ⟨_, rfl, ?_⟩⟩) (args_list_sort _))
  obtain ⟨ss, are, perm3, up⟩ := sorted_out_str texts done isSorted
  obtain ⟨c, outAt⟩ := sortedHeap_at (vs := vs) (out := (arrOf st).map (·.2)) listAt
  have all : ss.Perm (es.toList.map txOf) := perm3.trans perm2
  have eq : ss = (sigs x.cps.toList).map sg := sorted_is up (all.nodup_iff.mpr F.once) fun k => by
    rw [all.mem_iff, ← F.mem k, hT k, List.any_eq_true]
    exact ⟨fun ⟨z, at_z, e⟩ => ⟨z, at_z, of_decide_eq_true e⟩, fun ⟨z, at_z, e⟩ => ⟨z, at_z, decide_eq_true e⟩⟩
  refine hQ _ r.heap.objs.size _ c (fun b q at_b => ?_) gens os grows outAt (eq ▸ are)
  have below := Heap.lt_size (keep b q at_b)
  exact (sortedHeap_old (Nat.ne_of_lt below) (by rw [size_push']; exact Nat.lt_succ_of_lt below)).trans (Heap.get?_push_of_some _ (keep b q at_b))
end
/-- the set of the signs of x at a -/
def SetO (w : World) (a : Addr) (x : Str) : HO := .ext fun h => ∃ T n, HasX w h a T n ∧ n ≤ x.cps.size ∧ ∀ k, T k = x.cps.toList.any fun z => decide (k = ⟨#[z]⟩)
theorem setO_new {P : Program} {w : World} {H : Hp} {h : Heap} {a : Addr} {x : Str} {T : Str → Bool} {n : Nat} (R : HasX w h a T n) (hn : n ≤ x.cps.size) (hT : ∀ k, T k = x.cps.toList.any fun z => decide (k = ⟨#[z]⟩)) : ObjOk P w H h a (SetO w a x) := by
  refine ⟨⟨T, n, R, hn, hT⟩, ?_, fun h1 h2 p k => ?_⟩
  · exact let ⟨o, _, _, _, r⟩ := R; ⟨o, r.ob⟩
  · obtain ⟨T', n', R', q⟩ := p
    exact ⟨T', n', R'.at k, q⟩
theorem vals_strs : ∀ {vs : List Value} {ss : List Str}, StrsAre vs ss → Vals (ss.map V.str) vs
  | _, _, .nil => .nil
  | _, _, .cons x t r => .cons ⟨t, rfl⟩ (vals_strs r)
section
variable {X : Cx}
def rSetX (w : World) : List V → Hp → VK → Prop := fun xs H Q => ∃ x : Str, xs = [V.str x] ∧ x.cps.size < 64 ∧ ∀ a o, H a = none → o = SetO w a x → Q (.ref a) (upd H a o)
theorem call_setX (hc : X.calm = true) : CallR X (.type "set") (rSetX X.w) := by
  rintro pins s σ H _ us Q I r ⟨x, rfl, hx, q⟩
  rcases vals1 r with ⟨_, rfl, t, rfl⟩
  refine call_set (P := X.prog) (w := X.w) (I.ok.hd hc) (by unfold scanBound; omega) fun h' tk T c r1 r2 r3 k => ?_
  exact ⟨.ref s.heap.objs.size, upd H s.heap.objs.size (SetO X.w s.heap.objs.size x), I.laid (t' := tk) k (Nat.le_refl _) (setO_new r1 r2 r3), rfl, q _ _ (I.hok.fresh (Nat.le_refl _)) rfl⟩
def rSortX (w : World) : List V → Hp → VK → Prop := fun xs H Q => ∃ (a : Addr) (x : Str) (o : HO), xs = [V.ref a] ∧ H a = some o ∧ o = SetO w a x ∧ x.cps.size < 64 ∧ ∀ p, H p = none → Q (.ref p) (upd H p (.lst ((sigs x.cps.toList).map fun c => V.str (sg c))))
theorem cr_sortX (hc : X.calm = true) : CallR X (.builtin "sorted") (rSortX X.w) := by
  rintro pins s σ H _ us Q I r ⟨a, x, _, rfl, ha, rfl, hx, q⟩
  obtain ⟨T, n, R, hn, hT⟩ := (I.hok a _ ha).1
  rw [Vals.ref1 r]
  refine sorted_set (x := x) R hT (I.ok.hd hc) (by omega) fun s' p out c k g o hp hg hS => ?_
  have hlen : ((sigs x.cps.toList).map fun c => V.str (sg c)).length ≤ sizeLine := by
    have h1 : (sigs x.cps.toList).length ≤ x.cps.toList.length := len_sigs _
    have h2 : x.cps.toList.length = x.cps.size := Array.length_toList
    have h3 := sizeLine_eq
    rw [List.length_map]
    omega
  have free : H p = none := I.hok.fresh hp
  have hv : Vals ((sigs x.cps.toList).map fun c => V.str (sg c)) out.toList := by
    have := vals_strs hS
    rw [List.map_map] at this
    exact this
  have J : Inv X pins σ (upd H p (.lst ((sigs x.cps.toList).map fun c => V.str (sg c)))) { s with heap := s'.heap, gens := s'.gens, drawn := s'.drawn, toks := s'.toks } :=
    I.call (ch := []) (Un.laid k hp free) (I.hok.laid k hp ⟨hlen, _, c, hv, hg⟩) (g ▸ I.bare) nofun
  have same : { s with heap := s'.heap, gens := s'.gens, drawn := s'.drawn, toks := s'.toks } = s' := by
    rcases s with ⟨⟩; rcases s' with ⟨⟩; cases o; rfl
  exact same ▸ ⟨.ref p, _, J, rfl, q p free⟩
end
end TX
set_option Elab.async false
set_option linter.all false
set_option maxRecDepth 100000
set_option maxHeartbeats 4000000
namespace K1
abbrev W := List Nat
/-- the words of just k letters, and of at most k -/
def lay (L : W) : Nat → List W
  | 0 => [[]]
  | k + 1 => (lay L k).flatMap fun u => L.map fun c => u ++ [c]
def allW (L : W) : Nat → List W
  | 0 => [[]]
  | k + 1 => allW L k ++ lay L (k + 1)
/-- what is left behind the first c -/
def after (c : Nat) : W → Option W
  | [] => none
  | d :: r => if d = c then some r else after c r
/-- what is left behind the first place of a piece -/
def rest : W → W → Option W
  | [], w => some w
  | a :: u, w => (after a w).bind (rest u)
def isP (u w : W) : Bool := (rest u w).isSome
/-- what is left of a word, by the law's walk -/
def lp : W → W → W
  | u, [] => u
  | [], _ :: _ => []
  | a :: u, c :: w => if a = c then lp u w else lp (a :: u) w
/-- the pieces of just k letters, each with what is left behind it -/
def pl (S w : W) : Nat → List (W × W)
  | 0 => [([], w)]
  | k + 1 => (pl S w k).flatMap fun p => S.filterMap fun c => (after c p.2).map fun r => (p.1 ++ [c], r)
/-- the pieces of a word, as it is told -/
def told (w : W) (m : Nat) : List W := (allW (TX.sigs w) m).filter fun u => isP u w
/-- the place behind the first c from e on -/
def nx (w : W) (c e : Nat) : Option Nat := (after c (w.drop e)).map fun r => w.length - r.length
end K1
set_option Elab.async false
set_option linter.all false
set_option maxRecDepth 100000
set_option maxHeartbeats 4000000
namespace K1
open PySem PySem.Spec PyProof.Rows L2
open TX (sg sigs)
/-- the text of a word -/
def tx (w : W) : Str := ⟨w.toArray⟩
theorem tx_of (x : Str) : tx x.cps.toList = x := by
  unfold tx
  rw [Array.toArray_toList]
theorem tx_list (w : W) : (tx w).cps.toList = w := by
  show w.toArray.toList = w
  rw [List.toList_toArray]
theorem tx_len (w : W) : (tx w).length = w.length := by
  show w.toArray.size = w.length
  rw [List.size_toArray]
/-- the letters a to z -/
def Low (w : W) : Prop := ∀ c ∈ w, 97 ≤ c ∧ c ≤ 122
theorem uni : ∀ k : Fin 26, Unicode.isAlpha (97 + k.val) = true ∧ Unicode.isLower (97 + k.val) = true ∧ Unicode.isUpper (97 + k.val) = false ∧ Unicode.isTitle (97 + k.val) = false := by decide +kernel
theorem uni_low {c : Nat} (h : 97 ≤ c ∧ c ≤ 122) : Unicode.isAlpha c = true ∧ Unicode.isLower c = true ∧ Unicode.isUpper c = false ∧ Unicode.isTitle c = false := by
  have := uni ⟨c - 97, by omega⟩
  have e : 97 + (c - 97) = c := by omega
  simp only [e] at this
  exact this
theorem low_facts {w : W} (h : Low w) (hne : w ≠ []) : Txt.isascii (tx w) = true ∧ Txt.isalpha (tx w) = true ∧ Txt.islower (tx w) = true := by
  refine ⟨?_, ?_, ?_⟩
  · show (w.toArray).all _ = true
    rw [List.all_toArray, List.all_eq_true]
    intro c hc
    have := h c hc
    simp only [decide_eq_true_eq]
    omega
  · show ((decide ((tx w).length > 0)) && (w.toArray).all _) = true
    rw [List.all_toArray, tx_len, Bool.and_eq_true]
    refine ⟨decide_eq_true (List.length_pos_iff.mpr hne), ?_⟩
    rw [List.all_eq_true]
    exact fun c hc => (uni_low (h c hc)).1
  · show ((w.toArray).any _ && !(w.toArray).any _) = true
    rw [List.any_toArray, List.any_toArray, Bool.and_eq_true]
    constructor
    · rw [List.any_eq_true]
      obtain ⟨c, r, rfl⟩ : ∃ c r, w = c :: r := by
        cases w with
        | nil => exact absurd rfl hne
        | cons c r => exact ⟨c, r, rfl⟩
      exact ⟨c, List.mem_cons_self, (uni_low (h c List.mem_cons_self)).2.1⟩
    · rw [Bool.not_eq_true', List.any_eq_false]
      intro c hc
      have := uni_low (h c hc)
      rw [this.2.2.1, this.2.2.2]
      exact Bool.false_ne_true
end K1
set_option Elab.async false
set_option linter.all false
set_option maxRecDepth 100000
set_option maxHeartbeats 8000000
namespace WK
open PySem L2 PyProof.Rows K1
open TX (sg sigs)
open PySem.W (Frag kitOne)
/-- a def of the module by its name -/
structure Fn (K : Frag) (mg : Str → Option Value) (nm : Str) (st : Stmt) (ps : List Str) (f : Addr) (fd : FuncData) : Prop where
  g : mg nm = some (.ref f)
  F : Fun K nm nm st f fd
  b : L2.Binds K fd ps []
structure TN (mg : Str → Option Value) : Prop where
  len : mg "len" = none
  int : mg "int" = none
  abs : mg "abs" = none
  isi : mg "isinstance" = none
  bool : mg "bool" = none
  str : mg "str" = none
  all : mg "all" = none
  rng : mg "range" = none
  sorted : mg "sorted" = none
  set : mg "set" = none
  tuple : mg "tuple" = none
  list : mg "list" = none
  max : mg "max" = none
  min : mg "min" = none
  zip : mg "zip" = none
  most : ∃ t, mg "MAX_LETTERS" = some (.int 3 t)
theorem TN.dice {mg : Str → Option Value} (T : TN mg) : TDice mg := ⟨T.len, T.int, T.abs⟩
abbrev sIsInt : Stmt := top 26
abbrev sIsNum : Stmt := top 27
abbrev sNeedNum : Stmt := top 28
abbrev sAsc : Stmt := top 30
abbrev sIsLet : Stmt := top 39
abbrev sIsWord : Stmt := top 40
abbrev sIsOver : Stmt := top 41
abbrev sNeedLet : Stmt := top 42
abbrev sNeedWord : Stmt := top 43
abbrev sNeedOver : Stmt := top 44
theorem same_upd {H : Hp} {p : Addr} {o : HO} (h : H p = none) : Same H (upd H p o) := fun b u e => by rw [upd_ne (ne_of_none e h)]; exact e
theorem same_at {H H1 : Hp} {p : Addr} {o : HO} (s : Same H H1) (h : H p = none) : Same H (upd H1 p o) := fun b u e => by rw [upd_ne (ne_of_none e h)]; exact s b u e
theorem same_two {H H1 : Hp} {p : Addr} {o : HO} (s : Same H H1) (h : H1 p = none) : Same H (upd H1 p o) := s.trans (same_upd h)
theorem pe_ty {X : Cx} {x : Str} {pos : Pos} (n : String) (hm : X.mg x = none) (hv : bootBuiltins x = some (.type n)) (hg : Gl X x := by rfl) (hn : x ≠ "__name__" := by decide) (hd : (x == ("__debug__" : Str)) = false := by decide) : PE X (.Name x pos) (tC (.ty n)) := pe_bltn hg hm hv rfl hn hd
/-- a set of letters: one to three, ascending, of a to z -/
structure Let (L : W) : Prop where
  low : Low L
  asc : L.Pairwise (· < ·)
  ne : L ≠ []
  few : L.length ≤ 3
/-- what is told of a text: whether it is a word -/
def wordB (x : Str) : Bool := if x = "" then true else if Txt.isascii x = true then if Txt.isalpha x = true then Txt.islower x else false else false
theorem wordB_low {w : W} (h : Low w) : wordB (tx w) = true := by
  unfold wordB
  by_cases e : tx w = ""
  · rw [if_pos e]
  · rw [if_neg e]
    have hne : w ≠ [] := fun z => e (by rw [z] <;> rfl)
    obtain ⟨h1, h2, h3⟩ := low_facts h hne
    rw [if_pos h1, if_pos h2, h3]
def ascB (w : W) : Bool := decide (w.Pairwise (· < ·))
def letB (x : Str) : Bool := wordB x && (decide (1 ≤ x.length) && decide (x.length ≤ 3)) && ascB x.cps.toList
theorem letB_let {L : W} (h : Let L) : letB (tx L) = true := by
  unfold letB
  rw [wordB_low h.low, tx_len, tx_list]
  have h1 : ascB L = true := decide_eq_true h.asc
  have h2 := List.length_pos_iff.mpr h.ne
  rw [h1, decide_eq_true (show 1 ≤ L.length from h2), decide_eq_true h.few] <;> rfl
def spIsNum : Sp := fun vs H Q _ => ∃ i a b : Int, vs = [.int i, .int a, .int b] ∧ Q (.bl (decide (a ≤ i) && decide (i ≤ b))) H
def spNeedNum : Sp := fun vs H Q _ => ∃ i a b : Int, vs = [.int i, .int a, .int b] ∧ a ≤ i ∧ i ≤ b ∧ Q .non H
def spAsc : Sp := fun vs H Q _ => ∃ w : W, vs = [.str (tx w)] ∧ w ≠ [] ∧ w.length ≤ 1000 ∧ ∀ H', Same H H' → Q (.bl (ascB w)) H'
/-- no text -/
def NoText (K : Frag) (H : Hp) (v : V) : Prop := ∃ t, TyX K H v (.type t) ∧ PySem.W.kitOne K (.type t) (.type "str") = some false
def spIsWord (K : Frag) : Sp := fun vs H Q _ => ∃ v, vs = [v] ∧ ((∃ x, v = .str x ∧ Q (.bl (wordB x)) H) ∨ (NoText K H v ∧ Q (.bl false) H))
def spIsLet (K : Frag) : Sp := fun vs H Q _ => ∃ v, vs = [v] ∧ ((∃ x : Str, v = .str x ∧ x.length ≤ 1000 ∧ ∀ H', Same H H' → Q (.bl (letB x)) H') ∨ (NoText K H v ∧ Q (.bl false) H))
section
variable {P : Program} {w : World} {K : PySem.W.Frag} {mg : Str → Option Value} {base : Heap}
theorem scII : FnScope ["value"] ["value"] (defScope sIsInt) := ⟨rfl, rfl, rfl, by decide +kernel, rfl, by decide +kernel, by decide +kernel⟩
def spIsInt : Sp := fun vs H Q _ => ∃ i : Int, vs = [.int i] ∧ Q (.bl true) H
theorem ok_isint {f : Addr} {fd : FuncData} (F : Fun K "is_integer" "is_integer" sIsInt f fd) (T : TN mg) : FnOk P w K mg base CX0 1 f fd ["value"] spIsInt := by
  refine F.ok scII (fun vs H Q E h => ?_) (fun cdv A outer s H vs Q E hr h => ?_)
  · obtain ⟨i, rfl, _⟩ := h
    rfl
  · obtain ⟨i, rfl, q⟩ := h
    refine ⟨_, pss_one (ps_ret (pe_and (pe_callB call_isi (by rfl) T.isi (by decide +kernel) (pa_cons (pv 0) (pa_cons (pe_ty "int" T.int (by decide +kernel)) pa_nil)))
      (pe_one (pe_not (pe_callB call_isi (by rfl) T.isi (by decide +kernel) (pa_cons (pv 0) (pa_cons (pe_ty "bool" T.bool (by decide +kernel)) pa_nil))))))), ?_⟩
    refine ⟨_, rfl, _, _, _, _, true, rfl, .ty "int", .base (.int _), kit_ty (by decide +kernel), true, rfl, ?_⟩
    exact ⟨_, rfl, _, _, _, _, false, rfl, .ty "bool", .base (.int _), kit_ty (by decide +kernel), false, rfl, q⟩
theorem scIN : FnScope ["value", "least", "most"] ["value", "least", "most"] (defScope sIsNum) := ⟨rfl, rfl, rfl, by decide +kernel, rfl, by decide +kernel, by decide +kernel⟩
theorem ok_isnum {f g : Addr} {fd gd : FuncData} (F : Fun K "is_number" "is_number" sIsNum f fd) (T : TN mg) (A0 : Fn K mg "is_integer" sIsInt ["value"] g gd) : FnOk P w K mg base CX0 2 f fd ["value", "least", "most"] spIsNum := by
  have G0 : FnOk P w K mg base CX0 1 g gd ["value"] spIsInt := ok_isint A0.F T
  refine F.ok scIN (fun vs H Q E h => ?_) (fun cdv A outer s H vs Q E hr h => ?_)
  · obtain ⟨i, a, b, rfl, _⟩ := h
    rfl
  · obtain ⟨i, a, b, rfl, q⟩ := h
    refine ⟨_, pss_one (ps_ret (pe_and (pe_call G0 hr rfl A0.g A0.F.kp A0.b .nil pass0 (pa_cons (pv 0) pa_nil)) (pe_one (pe_chain op_le op_le (pv 1) (pv 0) (pv 2))))), ?_⟩
    refine ⟨_, rfl, i, rfl, true, rfl, ?_⟩
    refine ⟨_, rfl, _, rfl, _, _, rfl, rfl, _, rfl, ?_⟩
    by_cases h1 : a ≤ i
    · rw [decide_eq_true h1] at q ⊢
      exact ⟨_, rfl, _, _, rfl, rfl, q⟩
    · rw [decide_eq_false h1] at q ⊢
      exact q
theorem scNN : FnScope ["value", "least", "most"] ["value", "least", "most"] (defScope sNeedNum) := ⟨rfl, rfl, rfl, by decide +kernel, rfl, by decide +kernel, by decide +kernel⟩
theorem ok_neednum {f g e : Addr} {fd gd ed : FuncData} (F : Fun K "need_number" "need_number" sNeedNum f fd) (T : TN mg) (A0 : Fn K mg "is_integer" sIsInt ["value"] e ed) (A1 : Fn K mg "is_number" sIsNum ["value", "least", "most"] g gd) : FnOk P w K mg base CX0 3 f fd ["value", "least", "most"] spNeedNum := by
  have G1 : FnOk P w K mg base CX0 2 g gd _ spIsNum := ok_isnum A1.F T A0
  refine F.ok scNN (fun vs H Q E h => ?_) (fun cdv A outer s H vs Q E hr h => ?_)
  · obtain ⟨i, a, b, rfl, _⟩ := h
    rfl
  · obtain ⟨i, a, b, rfl, h1, h2, q⟩ := h
    refine ⟨_, pss_one (ps_if (pt_not (pt_val (pe_call G1 hr rfl A1.g A1.F.kp A1.b .nil pass0 (pa_cons (pv 0) (pa_cons (pv 1) (pa_cons (pv 2) pa_nil)))))) (pss_one ps_never) pss_nil), ?_⟩
    refine ⟨_, rfl, _, rfl, _, rfl, _, _, _, rfl, _, rfl, ?_⟩
    rw [decide_eq_true h1, decide_eq_true h2]
    exact q
theorem scAs : FnScope ["values", "at"] ["values"] (defScope sAsc) := ⟨rfl, rfl, rfl, by decide +kernel, rfl, by decide +kernel, by decide +kernel⟩
theorem lt_one (a b : Nat) : decide ((sg a).cps.toList < (sg b).cps.toList) = decide (a < b) := by
  rw [← ltCps_eq, TX.lt_sg]
/-- each less than the next -/
def adj (w : W) (i : Nat) : Bool := decide (w.getD i 0 < w.getD (i + 1) 0)
theorem adj_asc : ∀ (w : W), w ≠ [] → ((List.range (w.length - 1)).map (adj w)).all id = ascB w
  | [], h => absurd rfl h
  | [a], _ => by simp [ascB]
  | a :: b :: r, _ => by
    have ih := adj_asc (b :: r) (by simp)
    have e : (a :: b :: r).length - 1 = (b :: r).length - 1 + 1 := by simp
    rw [e, List.range_succ_eq_map, List.map_cons, List.all_cons, List.map_map]
    have e2 : (adj (a :: b :: r) ∘ Nat.succ) = adj (b :: r) := by
      funext i
      rfl
    rw [e2, ih]
    show (decide (a < b) && ascB (b :: r)) = ascB (a :: b :: r)
    unfold ascB
    rw [← Bool.decide_and]
    apply decide_eq_decide.mpr
    rw [List.pairwise_cons (a := a)]
    constructor
    · rintro ⟨h1, h2⟩
      refine ⟨fun y hy => ?_, h2⟩
      rcases List.mem_cons.mp hy with z | z
      · omega
      · have := (List.pairwise_cons.mp h2).1 y z
        omega
    · rintro ⟨h1, h2⟩
      exact ⟨h1 b List.mem_cons_self, h2⟩
theorem ok_asc {f : Addr} {fd : FuncData} (F : Fun K "ascends" "ascends" sAsc f fd) (T : TN mg) : FnOk P w K mg base CX0 1 f fd ["values"] spAsc := by
  refine F.ok scAs (fun vs H Q E h => ?_) (fun cdv A outer s H vs Q E hr h => ?_)
  · obtain ⟨w, rfl, _⟩ := h
    rfl
  · obtain ⟨w, rfl, hne, hl, q⟩ := h
    have hpos := List.length_pos_iff.mpr hne
    refine ⟨_, pss_one (ps_ret (pe_callB (cr_all rfl) (by rfl) T.all (by decide +kernel) (pa_cons (pe_lc (own := [("at", 1)]) (g := gName 1) (tt := tYes) rfl scAs.nd
      (pi_range1 rfl T.rng (pa_cons (pe_op op_sub (pe_callB call_len_str (by rfl) T.len PySem.boot_len (pa_cons (pv 0) pa_nil)) pe_int) pa_nil))
      (blkOk_by (own := [("at", 1)]) (N := ["values", "at"]) (sc := defScope sAsc) (by decide +kernel)) (fun _ _ _ _ _ => pg_name (i := 1) scAs.nd rfl (Or.inl rfl)) (fun _ _ _ _ _ => pts_nil)
      (fun _ _ _ _ _ => pe_cmpR op_lt_str (pe_ix ix_str (pv 0) (pv 1) (fun _ _ => rfl)) (pe_ix ix_str (pv 0) (pe_op op_add (pv 1) pe_int) (fun _ _ => rfl)) (nomark _))) pa_nil))), ?_⟩
    refine ⟨_, rfl, _, rfl, ?_, _, _, rfl, rfl, _, rfl, ?_, ?_, fun D hD => ?_⟩
    · rw [tx_len, sizeLine_eq]; omega
    · rw [tx_len]; omega
    · rw [tx_len]; omega
    · rw [tx_len]
      have e1 : ((w.length : Int) - 1) = ((w.length - 1 : Nat) : Int) := by omega
      rw [e1]
      refine lc_range (lo := 0) (n := w.length - 1) (fun i H1 => Same H H1 ∧ H1 D = some (.lst (((List.range i).map (adj w)).map V.bl))) ?_ ?_ ?_
      · exact ⟨same_upd hD, upd_same⟩
      · rintro i H1 hi ⟨s1, hd⟩
        have hz : (tx w).length ≤ sizeLine := by rw [tx_len, sizeLine_eq]; omega
        have at1 : atI (tx w).cps.toList (0 + (i : Int)) = some (w.getD i 0) := by
          rw [tx_list, Int.zero_add]
          exact atI_nat (by rw [List.getD_eq_getElem?_getD, List.getElem?_eq_getElem (by omega)] <;> rfl)
        have at2 : atI (tx w).cps.toList (0 + (i : Int) + 1) = some (w.getD (i + 1) 0) := by
          have e2 : (0 + (i : Int) + 1) = ((i + 1 : Nat) : Int) := by omega
          rw [tx_list, e2]
          exact atI_nat (by rw [List.getD_eq_getElem?_getD, List.getElem?_eq_getElem (by omega)] <;> rfl)
        refine ⟨rfl, _, rfl, _, rfl, _, _, w.getD i 0, rfl, rfl, hz, at1, _, rfl, _, rfl, _, _, rfl, rfl, _, _, w.getD (i + 1) 0, rfl, rfl, hz, at2, _, _, rfl, rfl, _, hd, ?_, same_at s1 hD, ?_⟩
        · rw [List.length_map, List.length_map, List.length_range, sizeLine_eq]
          omega
        · have e3 := lt_one (w.getD i 0) (w.getD (i + 1) 0)
          rw [e3, upd_same, List.range_succ, List.map_append, List.map_append] <;> rfl
      · rintro H1 ⟨s1, hd⟩
        refine ⟨D, _, rfl, SqL.of hd, ?_⟩
        rw [adj_asc w hne]
        exact q _ s1
theorem scIW : FnScope ["value"] ["value"] (defScope sIsWord) := ⟨rfl, rfl, rfl, by decide +kernel, rfl, by decide +kernel, by decide +kernel⟩
theorem ok_isword {f : Addr} {fd : FuncData} (F : Fun K "is_word" "is_word" sIsWord f fd) (T : TN mg) : FnOk P w K mg base CX0 1 f fd ["value"] (spIsWord K) := by
  refine F.ok scIW (fun vs H Q E h => ?_) (fun cdv A outer s H vs Q E hr h => ?_)
  · obtain ⟨v, rfl, _⟩ := h
    rfl
  · obtain ⟨v, rfl, h⟩ := h
    refine ⟨_, pss_cons (ps_if (pt_not (pt_val (pe_callB call_isi (by rfl) T.isi (by decide +kernel) (pa_cons (pv 0) (pa_cons (pe_ty "str" T.str (by decide +kernel)) pa_nil))))) (pss_one (ps_ret pe_bl)) pss_nil)
      (pss_one (ps_ret (pe_or (pe_cmpR op_eq (pv 0) pe_str (nomark _))
        (pe_one (pe_and (pe_m0 PySem.F.slot_str_isascii PySem.F.type_str_isascii mt_isascii (pv 0))
          (pe_and (pe_m0 PySem.F.slot_str_isalpha PySem.F.type_str_isalpha mt_isalpha (pv 0)) (pe_one (pe_m0 PySem.F.slot_str_islower PySem.F.type_str_islower mt_islower (pv 0))))))))), ?_⟩
    rcases h with ⟨x, rfl, q⟩ | ⟨⟨t, ty, hk⟩, q⟩
    · refine ⟨_, rfl, _, _, _, _, true, rfl, .ty "str", .base (.str _), kit_ty (by decide +kernel), true, rfl, ?_⟩
      refine ⟨_, rfl, rfl, _, rfl, ?_⟩
      unfold wordB at q
      by_cases h1 : x = ""
      · rw [if_pos h1] at q
        rw [if_pos (decide_eq_true (by rw [h1]))]
        exact q
      · rw [if_neg h1] at q
        rw [if_neg (fun z => h1 (V.str.inj (of_decide_eq_true z)))]
        refine ⟨_, rfl, ⟨_, rfl⟩, _, rfl, rfl, trivial, _, rfl, ?_⟩
        by_cases h2 : Txt.isascii x = true
        · rw [if_pos h2] at q ⊢
          refine ⟨_, rfl, ⟨_, rfl⟩, _, rfl, rfl, trivial, _, rfl, ?_⟩
          by_cases h3 : Txt.isalpha x = true
          · rw [if_pos h3] at q ⊢
            exact ⟨_, rfl, ⟨_, rfl⟩, _, rfl, rfl, trivial, q⟩
          · rw [if_neg h3] at q ⊢
            exact q
        · rw [if_neg h2] at q ⊢
          exact q
    · refine ⟨_, rfl, _, _, _, _, false, rfl, .ty "str", ty, hk, false, rfl, ?_⟩
      exact q
theorem scIL : FnScope ["value"] ["value"] (defScope sIsLet) := ⟨rfl, rfl, rfl, by decide +kernel, rfl, by decide +kernel, by decide +kernel⟩
theorem ok_islet {f g h : Addr} {fd gd hd : FuncData} (F : Fun K "is_letters" "is_letters" sIsLet f fd) (T : TN mg) (A1 : Fn K mg "is_word" sIsWord ["value"] g gd) (A2 : Fn K mg "ascends" sAsc ["values"] h hd) : FnOk P w K mg base CX0 2 f fd ["value"] (spIsLet K) := by
  have G1 : FnOk P w K mg base CX0 1 g gd _ (spIsWord K) := ok_isword A1.F T
  have G2 : FnOk P w K mg base CX0 1 h hd _ spAsc := ok_asc A2.F T
  obtain ⟨tM, hM⟩ := T.most
  refine F.ok scIL (fun vs H Q E h => ?_) (fun cdv A outer s H vs Q E hr h => ?_)
  · obtain ⟨v, rfl, _⟩ := h
    rfl
  · obtain ⟨v, rfl, h⟩ := h
    refine ⟨_, pss_one (ps_ret (pe_and (pe_call G1 hr rfl A1.g A1.F.kp A1.b .nil pass0 (pa_cons (pv 0) pa_nil))
      (pe_and (pe_chain op_le op_le pe_int (pe_callB call_len_str (by rfl) T.len PySem.boot_len (pa_cons (pv 0) pa_nil)) (pe_glob rfl hM (show RelV (.int 3) (.int 3 tM) from ⟨tM, rfl⟩)))
        (pe_one (pe_call G2 hr rfl A2.g A2.F.kp A2.b .nil pass0 (pa_cons (pv 0) pa_nil)))))), ?_⟩
    rcases h with ⟨x, rfl, hx, q⟩ | ⟨hn, q⟩
    · unfold letB at q
      refine ⟨_, rfl, _, rfl, .inl ⟨x, rfl, ?_⟩⟩
      refine ⟨_, rfl, ?_⟩
      by_cases h1 : wordB x = true
      · rw [if_pos h1]
        rw [h1] at q
        have hz : x.length ≤ sizeLine := by rw [sizeLine_eq]; omega
        refine ⟨_, rfl, _, rfl, hz, _, _, rfl, rfl, _, rfl, ?_⟩
        by_cases h2 : 1 ≤ x.length
        · have h2' : ((1 : Int) ≤ (x.length : Int)) := by omega
          rw [if_pos (decide_eq_true h2')]
          refine ⟨_, _, rfl, rfl, _, rfl, ?_⟩
          by_cases h3 : x.length ≤ 3
          · have h3' : ((x.length : Int) ≤ 3) := by omega
            rw [if_pos (decide_eq_true h3')]
            rw [decide_eq_true h2, decide_eq_true h3] at q
            refine ⟨_, rfl, x.cps.toList, (by rw [tx_of]; rfl), ?_, ?_, fun H' s1 => q H' s1⟩
            · intro z
              have : x.cps.toList.length = x.length := Array.length_toList
              rw [z] at this
              have h0 : x.length = 0 := this.symm
              omega
            · have : x.cps.toList.length = x.length := Array.length_toList
              omega
          · have h3' : ¬ ((x.length : Int) ≤ 3) := by omega
            rw [decide_eq_true h2, decide_eq_false h3] at q
            rw [if_neg (fun z => h3' (of_decide_eq_true z))]
            exact q _ (Same.refl _)
        · have h2' : ¬ ((1 : Int) ≤ (x.length : Int)) := by omega
          rw [if_neg (fun z => h2' (of_decide_eq_true z))]
          rw [decide_eq_false h2] at q
          exact ⟨_, rfl, q _ (Same.refl _)⟩
      · have h1' : wordB x = false := eq_false_of_ne_true h1
        rw [if_neg h1]
        rw [h1'] at q
        exact q _ (Same.refl _)
    · refine ⟨_, rfl, _, rfl, .inr ⟨hn, ?_⟩⟩
      exact ⟨_, rfl, q⟩
def spNeedLet : Sp := fun vs H Q _ => ∃ L : W, vs = [.str (tx L)] ∧ Let L ∧ ∀ H', Same H H' → Q .non H'
theorem scIO : FnScope ["letters", "word", "letter"] ["letters", "word"] (defScope sIsOver) := ⟨rfl, rfl, rfl, by decide +kernel, rfl, by decide +kernel, by decide +kernel⟩
theorem size_tx (u : W) : (tx u).cps.size = u.length := List.size_toArray
theorem scNL : FnScope ["letters"] ["letters"] (defScope sNeedLet) := ⟨rfl, rfl, rfl, by decide +kernel, rfl, by decide +kernel, by decide +kernel⟩
theorem ok_needlet {f g : Addr} {fd gd : FuncData} (F : Fun K "need_letters" "need_letters" sNeedLet f fd) (A1 : Fn K mg "is_letters" sIsLet ["value"] g gd) (G1 : FnOk P w K mg base CX0 2 g gd ["value"] (spIsLet K)) : FnOk P w K mg base CX0 3 f fd ["letters"] spNeedLet := by
  refine F.ok scNL (fun vs H Q E h => ?_) (fun cdv A outer s H vs Q E hr h => ?_)
  · obtain ⟨L, rfl, _⟩ := h
    rfl
  · obtain ⟨L, rfl, hL, q⟩ := h
    refine ⟨_, pss_one (ps_if (pt_not (pt_val (pe_call G1 hr rfl A1.g A1.F.kp A1.b .nil pass0 (pa_cons (pv 0) pa_nil)))) (pss_one ps_never) pss_nil), ?_⟩
    refine ⟨_, rfl, _, rfl, .inl ⟨tx L, rfl, ?_, fun H' s1 => ⟨_, rfl, ?_⟩⟩⟩
    · rw [tx_len]
      have := hL.few
      omega
    · rw [letB_let hL]
      exact q _ s1
theorem scNW : FnScope ["word"] ["word"] (defScope sNeedWord) := ⟨rfl, rfl, rfl, by decide +kernel, rfl, by decide +kernel, by decide +kernel⟩
theorem scNO : FnScope ["letters", "word"] ["letters", "word"] (defScope sNeedOver) := ⟨rfl, rfl, rfl, by decide +kernel, rfl, by decide +kernel, by decide +kernel⟩
end
end WK
set_option Elab.async false
set_option linter.all false
set_option maxRecDepth 100000
set_option maxHeartbeats 8000000
namespace WK
open PySem L2 PyProof.Rows K1
open TX (sg sigs)
open Walks
open PySem.W (Frag kitOne)
end WK
set_option Elab.async false
set_option linter.all false
set_option maxRecDepth 100000
set_option maxHeartbeats 8000000
namespace WK
open PySem L2 PyProof.Rows K1
open TX (sg sigs)
open PySem.W (Frag kitOne)
theorem but_at {p a : Addr} {H H1 : Hp} {o : HO} (B : But p H H1) (h : H a = none) : But p H (upd H1 a o) := fun b u e n => by rw [upd_ne (ne_of_none e h)]; exact B b u e n
theorem but_two {p a : Addr} {H H1 : Hp} {o : HO} (B : But p H H1) (h : H1 a = none) : But p H (upd H1 a o) := B.trans (But.ofSame (same_upd h))
theorem DiceAt.keep {H H' : Hp} {p : Addr} (h : DiceAt H p) (k : ∀ o, H p = some o → H' p = some o) : DiceAt H' p := by
  obtain ⟨a, b, c, e, r⟩ := h
  exact ⟨a, b, c, k _ e, r⟩
theorem DiceAt.new {H : Hp} {p a : Addr} {o : HO} (h : DiceAt H p) (ha : H a = none) : DiceAt (upd H a o) p := h.keep fun _ e => same_upd ha _ _ e
theorem DiceAt.ne {H : Hp} {p a : Addr} (h : DiceAt H p) (ha : H a = none) : a ≠ p := fun z => by
  obtain ⟨_, _, _, e, _⟩ := h
  rw [← z, ha] at e
  cases e
theorem dp_strs {K : Frag} {H : Hp} : ∀ ys : List Str, DpAll K H (ys.map V.str) (ys.map PyData.str)
  | [] => .nil
  | y :: ys => .cons (.str y) (dp_strs ys)
theorem shaped_strs (ys : List Str) (h : ∀ y ∈ ys, PyData.canLay0 (.str y) = true) : SeqAt.shaped (.list (ys.map PyData.str)) = true ∧ SeqAt.shaped (.tuple (ys.map PyData.str)) = true := by
  have h1 : ∀ ys : List Str, (∀ y ∈ ys, PyData.canLay0 (.str y) = true) → PyData.canLayAll0 (ys.map PyData.str) = true := by
    intro ys
    induction ys with
    | nil => intro _; rfl
    | cons y ys ih =>
      intro h
      show (PyData.canLay0 (.str y) && PyData.canLayAll0 (ys.map PyData.str)) = true
      rw [h y List.mem_cons_self, ih fun z hz => h z (List.mem_cons_of_mem _ hz)] <;> rfl
  have h2 : ∀ ys : List Str, PyData.depthAll (ys.map PyData.str) = 0 := by
    intro ys
    induction ys with
    | nil => rfl
    | cons y ys ih =>
      show max (PyData.depth (.str y)) (PyData.depthAll (ys.map PyData.str)) = 0
      rw [ih] <;> rfl
  constructor
  · show (PyData.canLayAll0 _ && decide (PyData.depthAll _ + 1 ≤ 64)) = true
    rw [h1 ys h, h2 ys] <;> rfl
  · show (PyData.canLayAll0 _ && decide (PyData.depthAll _ + 1 ≤ 64)) = true
    rw [h1 ys h, h2 ys] <;> rfl
end WK
set_option Elab.async false
set_option linter.all false
set_option maxRecDepth 100000
set_option maxHeartbeats 8000000
namespace WK
open PySem L2 PyProof.Rows K1
open TX (sg sigs)
open PySem.W (Frag kitOne)
theorem but_free {p a : Addr} {H H1 : Hp} (B : But p H H1) (ha : H1 a = none) (hne : a ≠ p) : H a = none := by
  cases e : H a with
  | none => rfl
  | some o => rw [B a o e hne] at ha; cases ha
end WK
set_option Elab.async false
set_option linter.all false
set_option maxRecDepth 100000
set_option maxHeartbeats 6000000
namespace LCX
open PySem L2 PyProof.Rows WK
open PySem.W (Frag)
theorem seqT {K : Frag} {H H' : Hp} {a : Addr} {xs : List V} (e : Same H H') (h : SqT K H a xs) : SqT K H' a xs := by
  rcases h with h | h
  · rcases h with h | ⟨ob, h⟩
    · exact .inl (.inl (e _ _ h))
    · exact .inl (.inr ⟨ob, e _ _ h⟩)
  · exact .inr h
theorem take_succ_flat {α : Type} (l : List α) (r : α → List V) (i : Nat) (x : α) (h : l[i]? = some x) : (l.take (i + 1)).flatMap r = (l.take i).flatMap r ++ r x := by
  rw [List.take_add_one, h]
  simp [List.flatMap_append]
theorem flat_map {α : Type} (l : List α) (v : α → V) : l.flatMap (fun x => [v x]) = l.map v := by
  induction l with
  | nil => rfl
  | cons x l ih => rw [List.flatMap_cons, ih] <;> rfl
theorem flat_len {α : Type} (l : List α) (r : α → List V) (h : ∀ x, (r x).length ≤ 1) : (l.flatMap r).length ≤ l.length := by
  induction l with
  | nil => exact Nat.le_refl _
  | cons x l ih =>
    rw [List.flatMap_cons, List.length_append, List.length_cons]
    have := h x
    omega
section
variable {K : Frag} {a D : Addr} {α : Type} {l : List α} {val : α → V} {r : α → List V} {g : TG} {tt : TT} {te : TE} {vs : List Nat} {σ : L2.St} {H1 : Hp} {Qd : Hp → Prop} {G : List V → Prop}
/-- one turn -/
abbrev Turn (g : TG) (tt : TT) (te : TE) (vs : List Nat) (σ : L2.St) (D : Addr) (x : V) (H : Hp) (N : Hp → Prop) : Prop := g x (wipe σ vs) H fun σ2 H2 => wipe σ2 vs = wipe σ vs ∧ tt σ2 H2 fun b H3 =>
  if b = true then te σ2 H3 fun y H4 => ∃ acc, H4 D = some (.lst acc) ∧ acc.length < sizeLine ∧ N (upd H4 D (.lst (acc ++ [y]))) else N H3
/-- what a comprehension asks that adds to the list at D what it picks -/
abbrev Went (J : It) (g : TG) (tt : TT) (te : TE) (vs : List Nat) (σ : L2.St) (D : Addr) (H1 : Hp) (Qd : Hp → Prop) : Prop :=
  ∃ W : Nat → Nat → Hp → Prop, (∃ m, W 0 m (upd H1 D (.lst []))) ∧ ∀ j n G, W j n G → (J.stop j G ∧ Qd G) ∨ (J.go j G ∧ ∃ N : Hp → Prop, (∀ G', N G' → ∃ n', n' < n ∧ W (j + 1) n' G') ∧ ∀ v G', J.yld j G v G' → Turn g tt te vs σ D v G' N)
/-- with an invariant of one's own -/
theorem pick_list (Iv : Hp → Prop) (h0 : Iv (upd H1 D (.lst []))) (hl : ∀ H, Iv H → SqL K H a (l.map val)) (hn : l.length < sizeLine) (hr : ∀ x, (r x).length ≤ 1)
    (hs : ∀ x ∈ l, ∀ H acc, Iv H → H D = some (.lst acc) → acc.length < sizeLine → ∀ N : Hp → Prop, (∀ H', Iv H' → H' D = some (.lst (acc ++ r x)) → N H') → Turn g tt te vs σ D (val x) H N)
    (hd : ∀ H, Iv H → H D = some (.lst (l.flatMap r)) → Qd H) :
    Went (Itl K a) g tt te vs σ D H1 Qd := by
  refine lc_list (K := K) (a := a) (xs := l.map val) (fun i H => Iv H ∧ H D = some (.lst ((l.take i).flatMap r))) ⟨h0, upd_same⟩ (fun i H _ p => hl H p.1) (fun i x H hx p => ?_) (fun H p => ?_)
  · rw [List.getElem?_map] at hx
    cases e : l[i]? with
    | none => rw [e] at hx; cases hx
    | some y =>
      rw [e] at hx
      obtain rfl : val y = x := Option.some.inj hx
      have hlen := flat_len (l.take i) r hr
      have : (l.take i).length ≤ l.length := by rw [List.length_take]; exact Nat.min_le_right ..
      exact hs y (List.mem_of_getElem? e) H _ p.1 p.2 (by omega) _ fun H' q1 q2 => ⟨q1, by rw [take_succ_flat l r i y e]; exact q2⟩
  · rw [List.length_map, List.take_length] at p
    exact hd H p.1 p.2
theorem pick_tup (Iv : Hp → Prop) (h0 : Iv (upd H1 D (.lst []))) (hl : ∀ H, Iv H → SqT K H a (l.map val)) (hn : l.length < sizeLine) (hr : ∀ x, (r x).length ≤ 1)
    (hs : ∀ x ∈ l, ∀ H acc, Iv H → H D = some (.lst acc) → acc.length < sizeLine → ∀ N : Hp → Prop, (∀ H', Iv H' → H' D = some (.lst (acc ++ r x)) → N H') → Turn g tt te vs σ D (val x) H N)
    (hd : ∀ H, Iv H → H D = some (.lst (l.flatMap r)) → Qd H) :
    Went (Itt K a) g tt te vs σ D H1 Qd := by
  refine lc_tup (K := K) (a := a) (xs := l.map val) (fun i H => Iv H ∧ H D = some (.lst ((l.take i).flatMap r))) ⟨h0, upd_same⟩ (fun i H _ p => hl H p.1) (fun i x H hx p => ?_) (fun H p => ?_)
  · rw [List.getElem?_map] at hx
    cases e : l[i]? with
    | none => rw [e] at hx; cases hx
    | some y =>
      rw [e] at hx
      obtain rfl : val y = x := Option.some.inj hx
      have hlen := flat_len (l.take i) r hr
      have : (l.take i).length ≤ l.length := by rw [List.length_take]; exact Nat.min_le_right ..
      exact hs y (List.mem_of_getElem? e) H _ p.1 p.2 (by omega) _ fun H' q1 q2 => ⟨q1, by rw [take_succ_flat l r i y e]; exact q2⟩
  · rw [List.length_map, List.take_length] at p
    exact hd H p.1 p.2
/-- nothing but new things: over a list, over a tuple -/
theorem same_list (hD : H1 D = none) (hl : SqL K H1 a (l.map val)) (hn : l.length < sizeLine) (hr : ∀ x, (r x).length ≤ 1)
    (hs : ∀ x ∈ l, ∀ H acc, Same H1 H → H D = some (.lst acc) → acc.length < sizeLine → ∀ N : Hp → Prop, (∀ H', Same H1 H' → H' D = some (.lst (acc ++ r x)) → N H') → Turn g tt te vs σ D (val x) H N)
    (hd : ∀ H, Same H1 H → H D = some (.lst (l.flatMap r)) → Qd H) :
    Went (Itl K a) g tt te vs σ D H1 Qd :=
  pick_list (Same H1) (same_upd hD) (fun H s => s.seq hl) hn hr hs hd
theorem same_tup (hD : H1 D = none) (hl : SqT K H1 a (l.map val)) (hn : l.length < sizeLine) (hr : ∀ x, (r x).length ≤ 1)
    (hs : ∀ x ∈ l, ∀ H acc, Same H1 H → H D = some (.lst acc) → acc.length < sizeLine → ∀ N : Hp → Prop, (∀ H', Same H1 H' → H' D = some (.lst (acc ++ r x)) → N H') → Turn g tt te vs σ D (val x) H N)
    (hd : ∀ H, Same H1 H → H D = some (.lst (l.flatMap r)) → Qd H) :
    Went (Itt K a) g tt te vs σ D H1 Qd :=
  pick_tup (Same H1) (same_upd hD) (fun H s => seqT s hl) hn hr hs hd
end
end LCX
set_option Elab.async false
set_option linter.all false
set_option maxRecDepth 100000
set_option maxHeartbeats 8000000
namespace WK
open PySem L2 PyProof.Rows LCX
open PySem.W (Frag kitOne)
abbrev sIsAsc : Stmt := top 31
abbrev sIsTab : Stmt := top 34
abbrev sIsRow : Stmt := top 36
/-- a whole number, True or False -/
def isNum (v : V) : Prop := (∃ i, v = .int i) ∨ ∃ b, v = .bl b
def numB (v : V) (a b : Int) : Bool := match v with
  | .int i => decide (a ≤ i) && decide (i ≤ b)
  | _ => false
def intOf (v : V) : Int := match v with
  | .int i => i
  | _ => 0
def ascI (is : List Int) : Bool := decide (is.Pairwise (· < ·))
/-- an ascending tuple of numbers below m -/
def ascV (xs : List V) (m : Int) : Bool := (xs.map fun x => numB x 0 (m - 1)).all id && ascI (xs.map intOf)
def rowB (xs : List V) (wd m : Int) : Bool := decide ((xs.length : Int) = wd) && (xs.map fun x => numB x 0 (m - 1)).all id
/-- a table by its rows; none is a row that is no tuple -/
def tabB (rs : List (Option (List V))) (wd most : Int) : Bool := decide (1 ≤ (rs.length : Int)) && decide ((rs.length : Int) ≤ most) && (rs.map fun r => match r with
  | some xs => rowB xs wd rs.length
  | none => false).all id
/-- no tuple, as long as old things stay -/
def NT (H : Hp) (v : V) : Prop := (∃ x, v = .str x) ∨ v = .non ∨ (∃ i, v = .int i) ∨ (∃ b, v = .bl b) ∨ ∃ a xs, v = .ref a ∧ H a = some (.lst xs)
theorem NT.ext {H H' : Hp} {v : V} (h : NT H v) (s : Same H H') : NT H' v := by
  rcases h with h | h | h | h | ⟨a, xs, h, q⟩
  · exact .inl h
  · exact .inr (.inl h)
  · exact .inr (.inr (.inl h))
  · exact .inr (.inr (.inr (.inl h)))
  · exact .inr (.inr (.inr (.inr ⟨a, xs, h, s _ _ q⟩)))
theorem NT.ty {K : Frag} {H : Hp} {v : V} (h : NT H v) : ∃ t, TyX K H v (.type t) ∧ kitOne K (.type t) (.type "tuple") = some false := by
  rcases h with ⟨x, rfl⟩ | rfl | ⟨i, rfl⟩ | ⟨b, rfl⟩ | ⟨a, xs, rfl, q⟩
  · exact ⟨_, .base (.str _), kit_ty (by decide +kernel)⟩
  · exact ⟨_, .base .non, kit_ty (by decide +kernel)⟩
  · exact ⟨_, .base (.int _), kit_ty (by decide +kernel)⟩
  · exact ⟨_, .base (.bl _), kit_ty (by decide +kernel)⟩
  · exact ⟨_, .base (.lst q), kit_ty (by decide +kernel)⟩
theorem tyT {K : Frag} {H : Hp} {a : Addr} {xs : List V} (h : SqT K H a xs) : TyX K H (.ref a) (.type "tuple") := by
  rcases h with (h | ⟨o, h⟩) | ⟨o, its, n, h1, h2, _⟩
  · exact .base (.tup h)
  · exact .fTuple h
  · exact .kTuple h1 h2
/-- a row of a table -/
def RowV (K : Frag) (H : Hp) (v : V) : Option (List V) → Prop
  | some xs => ∃ a, v = .ref a ∧ SqT K H a xs ∧ xs.length ≤ 100 ∧ ∀ x ∈ xs, isNum x
  | none => NT H v
theorem RowV.ext {K : Frag} {H H' : Hp} {v : V} {r : Option (List V)} (h : RowV K H v r) (s : Same H H') : RowV K H' v r := by
  cases r with
  | none => exact NT.ext h s
  | some xs =>
    obtain ⟨a, e, t, l, q⟩ := h
    exact ⟨a, e, seqT s t, l, q⟩
def spInt2 : Sp := fun vs H Q _ => ∃ v, vs = [v] ∧ ((∃ i, v = .int i ∧ Q (.bl true) H) ∨ ∃ b, v = .bl b ∧ Q (.bl false) H)
def spNum2 : Sp := fun vs H Q _ => ∃ v a b, vs = [v, .int a, .int b] ∧ isNum v ∧ Q (.bl (numB v a b)) H
def spAscT (K : Frag) : Sp := fun vs H Q _ => ∃ (a : Addr) (is : List Int), vs = [.ref a] ∧ SqT K H a (is.map V.int) ∧ is.length ≤ 100 ∧ ∀ H', Same H H' → Q (.bl (ascI is)) H'
def spIsAsc (K : Frag) : Sp := fun vs H Q _ => ∃ v m, vs = [v, .int m] ∧ ((∃ a xs, v = .ref a ∧ SqT K H a xs ∧ xs.length ≤ 100 ∧ (∀ x ∈ xs, isNum x) ∧ ∀ H', Same H H' → Q (.bl (ascV xs m)) H') ∨ (NT H v ∧ Q (.bl false) H))
def spRow (K : Frag) : Sp := fun vs H Q _ => ∃ v wd m r, vs = [v, .int wd, .int m] ∧ RowV K H v r ∧ ∀ H', Same H H' → Q (.bl (match r with
  | some xs => rowB xs wd m
  | none => false)) H'
/-- its rows are these -/
def Rows (K : Frag) (H : Hp) : List V → List (Option (List V)) → Prop
  | [], [] => True
  | x :: xs, r :: rs => RowV K H x r ∧ Rows K H xs rs
  | _, _ => False
def spTab (K : Frag) : Sp := fun vs H Q _ => ∃ v wd most, vs = [v, .int wd, .int most] ∧ ((∃ a xs rs, v = .ref a ∧ SqT K H a xs ∧ xs.length ≤ 100 ∧ Rows K H xs rs ∧ ∀ H', Same H H' → Q (.bl (tabB rs wd most)) H') ∨ (NT H v ∧ Q (.bl false) H))
section
variable {P : Program} {w : World} {K : PySem.W.Frag} {mg : Str → Option Value} {base : Heap}
theorem ok_int2 {f : Addr} {fd : FuncData} (F : Fun K "is_integer" "is_integer" sIsInt f fd) (T : TN mg) : FnOk P w K mg base CX0 1 f fd ["value"] spInt2 := by
  refine F.ok scII (fun vs H Q E h => ?_) (fun cdv A outer s H vs Q E hr h => ?_)
  · obtain ⟨v, rfl, _⟩ := h
    rfl
  · obtain ⟨v, rfl, h⟩ := h
    refine ⟨_, pss_one (ps_ret (pe_and (pe_callB call_isi (by rfl) T.isi (by decide +kernel) (pa_cons (pv 0) (pa_cons (pe_ty "int" T.int (by decide +kernel)) pa_nil)))
      (pe_one (pe_not (pe_callB call_isi (by rfl) T.isi (by decide +kernel) (pa_cons (pv 0) (pa_cons (pe_ty "bool" T.bool (by decide +kernel)) pa_nil))))))), ?_⟩
    rcases h with ⟨i, rfl, q⟩ | ⟨b, rfl, q⟩
    · refine ⟨_, rfl, _, _, _, _, true, rfl, .ty "int", .base (.int _), kit_ty (by decide +kernel), true, rfl, ?_⟩
      exact ⟨_, rfl, _, _, _, _, false, rfl, .ty "bool", .base (.int _), kit_ty (by decide +kernel), false, rfl, q⟩
    · refine ⟨_, rfl, _, _, _, _, true, rfl, .ty "int", .base (.bl _), kit_ty (by decide +kernel), true, rfl, ?_⟩
      exact ⟨_, rfl, _, _, _, _, true, rfl, .ty "bool", .base (.bl _), kit_ty (by decide +kernel), true, rfl, q⟩
theorem ok_num2 {f g : Addr} {fd gd : FuncData} (F : Fun K "is_number" "is_number" sIsNum f fd) (T : TN mg) (A0 : Fn K mg "is_integer" sIsInt ["value"] g gd) : FnOk P w K mg base CX0 2 f fd ["value", "least", "most"] spNum2 := by
  have G0 : FnOk P w K mg base CX0 1 g gd ["value"] spInt2 := ok_int2 A0.F T
  refine F.ok scIN (fun vs H Q E h => ?_) (fun cdv A outer s H vs Q E hr h => ?_)
  · obtain ⟨v, a, b, rfl, _⟩ := h
    rfl
  · obtain ⟨v, a, b, rfl, hn, q⟩ := h
    refine ⟨_, pss_one (ps_ret (pe_and (pe_call G0 hr rfl A0.g A0.F.kp A0.b .nil pass0 (pa_cons (pv 0) pa_nil)) (pe_one (pe_chain op_le op_le (pv 1) (pv 0) (pv 2))))), ?_⟩
    rcases hn with ⟨i, rfl⟩ | ⟨c, rfl⟩
    · refine ⟨_, rfl, _, rfl, .inl ⟨i, rfl, true, rfl, ?_⟩⟩
      refine ⟨_, rfl, _, rfl, _, _, rfl, rfl, _, rfl, ?_⟩
      have q : Q (.bl (decide (a ≤ i) && decide (i ≤ b))) H := q
      by_cases h1 : a ≤ i
      · rw [decide_eq_true h1] at q ⊢
        exact ⟨_, rfl, _, _, rfl, rfl, q⟩
      · rw [decide_eq_false h1] at q ⊢
        exact q
    · exact ⟨_, rfl, _, rfl, .inr ⟨c, rfl, false, rfl, q⟩⟩
theorem scIA : FnScope ["value", "many", "part"] ["value", "many"] (defScope sIsAsc) := ⟨rfl, rfl, rfl, by decide +kernel, rfl, by decide +kernel, by decide +kernel⟩
theorem scRw : FnScope ["value", "width", "many", "after"] ["value", "width", "many"] (defScope sIsRow) := ⟨rfl, rfl, rfl, by decide +kernel, rfl, by decide +kernel, by decide +kernel⟩
theorem scTb : FnScope ["value", "width", "most", "row"] ["value", "width", "most"] (defScope sIsTab) := ⟨rfl, rfl, rfl, by decide +kernel, rfl, by decide +kernel, by decide +kernel⟩
/-- a row's numbers -/
theorem ok_row {f g : Addr} {fd gd : FuncData} (F : Fun K "_is_row" "_is_row" sIsRow f fd) (T : TN mg) (A1 : Fn K mg "is_number" sIsNum ["value", "least", "most"] g gd) (G1 : FnOk P w K mg base CX0 2 g gd ["value", "least", "most"] spNum2) : FnOk P w K mg base CX0 3 f fd ["value", "width", "many"] (spRow K) := by
  refine F.ok scRw (fun vs H Q E h => ?_) (fun cdv A outer s H vs Q E hr h => ?_)
  · obtain ⟨v, wd, m, r, rfl, _⟩ := h
    rfl
  · obtain ⟨v, wd, m, r, rfl, hv, q⟩ := h
    refine ⟨_, pss_cons (ps_if (PW.pt (pw_or (pt_not (pt_val (pe_callB call_isi (by rfl) T.isi (by decide +kernel) (pa_cons (pv 0) (pa_cons (pe_ty "tuple" T.tuple (by decide +kernel)) pa_nil)))))
        (pw_or1 (pt_cmpR op_ne (pe_callB call_len_seq (by rfl) T.len PySem.boot_len (pa_cons (pv 0) pa_nil)) (pv 1) (nomark _))))) (pss_one (ps_ret pe_bl)) pss_nil)
      (pss_one (ps_ret (pe_callB (cr_all rfl) (by rfl) T.all (by decide +kernel) (pa_cons (pe_lc (own := [("after", 3)]) (g := gName 3) (tt := tYes) rfl scRw.nd (pi_tup (pv 0))
        (blkOk_by (own := [("after", 3)]) (N := ["value", "width", "many", "after"]) (sc := defScope sIsRow) (by decide +kernel)) (fun _ _ _ _ _ => pg_name (i := 3) scRw.nd rfl (Or.inl rfl)) (fun _ _ _ _ _ => pts_nil)
        (fun _ _ _ _ _ => pe_call G1 hr rfl A1.g A1.F.kp A1.b .nil pass0 (pa_cons (pv 3) (pa_cons pe_int (pa_cons (pe_op op_sub (pv 2) pe_int) pa_nil))))) pa_nil)))), ?_⟩
    cases r with
    | none =>
      obtain ⟨t, ty, hk⟩ := NT.ty (K := K) hv
      exact ⟨_, rfl, _, _, _, _, false, rfl, .ty "tuple", ty, hk, false, rfl, q _ (Same.refl H)⟩
    | some xs =>
      obtain ⟨a, rfl, hT, hl, hx⟩ := hv
      refine ⟨_, rfl, _, _, _, _, true, rfl, .ty "tuple", tyT hT, kit_ty (by decide +kernel), true, rfl, ?_⟩
      refine ⟨_, rfl, a, xs, rfl, .inr hT, _, rfl, rfl, _, rfl, ?_⟩
      have q : ∀ H', Same H H' → Q (.bl (rowB xs wd m)) H' := q
      by_cases hw : (xs.length : Int) = wd
      · have e1 : (!decide (V.int (xs.length : Int) = V.int wd)) = false := by rw [decide_eq_true (by rw [hw])] <;> rfl
        rw [e1]
        refine ⟨_, rfl, a, rfl, ⟨_, hT⟩, fun D hD => ?_⟩
        have hT' : SqT K H a (xs.map id) := by rw [List.map_id]; exact hT
        refine same_tup (val := id) (r := fun x => [V.bl (numB x 0 (m - 1))]) hD hT' (by rw [sizeLine_eq]; omega) (fun _ => Nat.le_refl _) (fun x hx' H1 acc s1 hacc hlen N hN => ?_) (fun H1 s1 hd => ?_)
        · exact ⟨rfl, _, rfl, _, rfl, _, _, rfl, rfl, x, _, _, rfl, hx x hx', acc, hacc, hlen, hN _ (same_at s1 hD) upd_same⟩
        · have e : xs.flatMap (fun x => [V.bl (numB x 0 (m - 1))]) = (xs.map fun x => numB x 0 (m - 1)).map V.bl := by rw [flat_map, List.map_map] <;> rfl
          rw [e] at hd
          refine ⟨D, _, rfl, SqL.of hd, ?_⟩
          have q2 := q _ s1
          unfold rowB at q2
          rw [decide_eq_true hw] at q2
          exact q2
      · have e1 : (!decide (V.int (xs.length : Int) = V.int wd)) = true := by rw [decide_eq_false (fun z => hw (V.int.inj z))] <;> rfl
        rw [e1]
        have q2 := q _ (Same.refl H)
        unfold rowB at q2
        rw [decide_eq_false hw] at q2
        exact q2
def adjI (w : List Int) (i : Nat) : Bool := decide (w.getD i 0 < w.getD (i + 1) 0)
theorem adjI_asc : ∀ w : List Int, ((List.range (w.length - 1)).map (adjI w)).all id = ascI w
  | [] => by simp [ascI]
  | [a] => by simp [ascI]
  | a :: b :: r => by
    have ih := adjI_asc (b :: r)
    have e : (a :: b :: r).length - 1 = (b :: r).length - 1 + 1 := by simp
    rw [e, List.range_succ_eq_map, List.map_cons, List.all_cons, List.map_map]
    have e2 : (adjI (a :: b :: r) ∘ Nat.succ) = adjI (b :: r) := by
      funext i
      rfl
    rw [e2, ih]
    show (decide (a < b) && ascI (b :: r)) = ascI (a :: b :: r)
    unfold ascI
    rw [← Bool.decide_and]
    refine decide_eq_decide.mpr ⟨fun ⟨h1, h2⟩ => ?_, fun h => ?_⟩
    · refine List.pairwise_cons.mpr ⟨fun y hy => ?_, h2⟩
      rcases List.mem_cons.mp hy with z | z
      · omega
      · have := (List.pairwise_cons.mp h2).1 y z
        omega
    · obtain ⟨h1, h2⟩ := List.pairwise_cons.mp h
      exact ⟨h1 b List.mem_cons_self, h2⟩
theorem ok_ascT {f : Addr} {fd : FuncData} (F : Fun K "ascends" "ascends" sAsc f fd) (T : TN mg) : FnOk P w K mg base CX0 1 f fd ["values"] (spAscT K) := by
  refine F.ok scAs (fun vs H Q E h => ?_) (fun cdv A outer s H vs Q E hr h => ?_)
  · obtain ⟨w, is, rfl, _⟩ := h
    rfl
  · obtain ⟨a, is, rfl, hT, hl, q⟩ := h
    refine ⟨_, pss_one (ps_ret (pe_callB (cr_all rfl) (by rfl) T.all (by decide +kernel) (pa_cons (pe_lc (own := [("at", 1)]) (g := gName 1) (tt := tYes) (te := tOp (rI0 fun i j => .bl (decide (i < j))) (tOp (rIxT K) (tVar 0) (tVar 1)) (tOp (rIxT K) (tVar 0) (tOp (rI0 fun i j => .int (i + j)) (tVar 1) (tC (.int 1))))) rfl scAs.nd
      (pi_range1 rfl T.rng (pa_cons (pe_op op_sub (pe_callB call_len_seq (by rfl) T.len PySem.boot_len (pa_cons (pv 0) pa_nil)) pe_int) pa_nil))
      (blkOk_by (own := [("at", 1)]) (N := ["values", "at"]) (sc := defScope sAsc) (by decide +kernel)) (fun _ _ _ _ _ => pg_name (i := 1) scAs.nd rfl (Or.inl rfl)) (fun _ _ _ _ _ => pts_nil)
      (fun _ _ _ _ _ => pe_cmpR op_lt (pe_ix ix_tup (pv 0) (pv 1) (fun _ _ => rfl)) (pe_ix ix_tup (pv 0) (pe_op op_add (pv 1) pe_int) (fun _ _ => rfl)) (nomark _))) pa_nil))), ?_⟩
    have hl2 : ((is.map V.int).length : Int) ≤ 100 := by rw [List.length_map]; omega
    refine ⟨_, rfl, a, _, rfl, .inr hT, _, _, rfl, rfl, _, rfl, (by omega), (by omega), fun D hD => ?_⟩
    have e1 : (((is.map V.int).length : Int) - 1).toNat = is.length - 1 := by rw [List.length_map]; omega
    rw [e1]
    refine lc_range (lo := 0) (n := is.length - 1) (fun i H1 => Same H H1 ∧ H1 D = some (.lst (((List.range i).map (adjI is)).map V.bl))) ⟨same_upd hD, upd_same⟩ ?_ ?_
    · rintro i H1 hi ⟨s1, hd⟩
      have at1 : ∀ j : Nat, j < is.length → atI (is.map V.int) (j : Int) = some (.int (is.getD j 0)) := fun j hj => by
        refine atI_nat ?_
        rw [List.getElem?_map, List.getD_eq_getElem?_getD, List.getElem?_eq_getElem hj] <;> rfl
      have e2 : (0 + (i : Int)) = ((i : Nat) : Int) := by omega
      have e3 : (0 + (i : Int) + 1) = ((i + 1 : Nat) : Int) := by omega
      refine ⟨rfl, _, rfl, _, rfl, a, _, _, _, rfl, rfl, seqT s1 hT, (by rw [e2]; exact at1 i (by omega)), _, rfl, _, rfl, _, _, rfl, rfl, a, _, _, _, rfl, rfl, seqT s1 hT, (by rw [e3]; exact at1 (i + 1) (by omega)), _, _, rfl, rfl, _, hd, ?_, same_at s1 hD, ?_⟩
      · rw [List.length_map, List.length_map, List.length_range, sizeLine_eq]
        omega
      · rw [upd_same, List.range_succ, List.map_append, List.map_append] <;> rfl
    · rintro H1 ⟨s1, hd⟩
      refine ⟨D, _, rfl, SqL.of hd, ?_⟩
      rw [adjI_asc]
      exact q _ s1
theorem ok_isasc {f g c : Addr} {fd gd cd : FuncData} (F : Fun K "is_ascending" "is_ascending" sIsAsc f fd) (T : TN mg) (A1 : Fn K mg "is_number" sIsNum ["value", "least", "most"] g gd) (G1 : FnOk P w K mg base CX0 2 g gd ["value", "least", "most"] spNum2)
    (A2 : Fn K mg "ascends" sAsc ["values"] c cd) (G2 : FnOk P w K mg base CX0 1 c cd ["values"] (spAscT K)) : FnOk P w K mg base CX0 3 f fd ["value", "many"] (spIsAsc K) := by
  have hX : ∀ {k}, Room 2 k → Room 1 k := fun h => h.mono (by decide)
  refine F.ok scIA (fun vs H Q E h => ?_) (fun cdv A outer s H vs Q E hr h => ?_)
  · obtain ⟨v, m, rfl, _⟩ := h
    rfl
  · obtain ⟨v, m, rfl, h⟩ := h
    refine ⟨_, pss_cons (ps_if (pt_not (pt_val (pe_callB call_isi (by rfl) T.isi (by decide +kernel) (pa_cons (pv 0) (pa_cons (pe_ty "tuple" T.tuple (by decide +kernel)) pa_nil))))) (pss_one (ps_ret pe_bl)) pss_nil)
      (pss_one (ps_ret (pe_and (pe_callB (cr_all rfl) (by rfl) T.all (by decide +kernel) (pa_cons (pe_lc (own := [("part", 2)]) (g := gName 2) (tt := tYes) rfl scIA.nd (pi_tup (pv 0))
        (blkOk_by (own := [("part", 2)]) (N := ["value", "many", "part"]) (sc := defScope sIsAsc) (by decide +kernel)) (fun _ _ _ _ _ => pg_name (i := 2) scIA.nd rfl (Or.inl rfl)) (fun _ _ _ _ _ => pts_nil)
        (fun _ _ _ _ _ => pe_call G1 hr rfl A1.g A1.F.kp A1.b .nil pass0 (pa_cons (pv 2) (pa_cons pe_int (pa_cons (pe_op op_sub (pv 1) pe_int) pa_nil))))) pa_nil))
        (pe_one (pe_call G2 (hX hr) rfl A2.g A2.F.kp A2.b .nil pass0 (pa_cons (pv 0) pa_nil)))))), ?_⟩
    rcases h with ⟨a, xs, rfl, hT, hl, hx, q⟩ | ⟨hn, q⟩
    · refine ⟨_, rfl, _, _, _, _, true, rfl, .ty "tuple", tyT hT, kit_ty (by decide +kernel), true, rfl, ?_⟩
      refine ⟨_, rfl, a, rfl, ⟨_, hT⟩, fun D hD => ?_⟩
      have hT' : SqT K H a (xs.map id) := by rw [List.map_id]; exact hT
      refine same_tup (val := id) (r := fun x => [V.bl (numB x 0 (m - 1))]) hD hT' (by rw [sizeLine_eq]; omega) (fun _ => Nat.le_refl _) (fun x hx' H1 acc s1 hacc hlen N hN => ?_) (fun H1 s1 hd => ?_)
      · exact ⟨rfl, _, rfl, _, rfl, _, _, rfl, rfl, x, _, _, rfl, hx x hx', acc, hacc, hlen, hN _ (same_at s1 hD) upd_same⟩
      · have e : xs.flatMap (fun x => [V.bl (numB x 0 (m - 1))]) = (xs.map fun x => numB x 0 (m - 1)).map V.bl := by rw [flat_map, List.map_map] <;> rfl
        rw [e] at hd
        refine ⟨D, _, rfl, SqL.of hd, ?_⟩
        unfold ascV at q
        cases e2 : (xs.map fun x => numB x 0 (m - 1)).all id with
        | false =>
          rw [e2] at q
          exact ⟨false, rfl, q _ s1⟩
        | true =>
          rw [e2] at q
          have e3 : xs = (xs.map intOf).map V.int := by
            rw [List.map_map]
            refine (List.map_id xs).symm.trans (List.map_congr_left fun x hx' => ?_)
            have h4 := List.all_eq_true.mp e2 _ (List.mem_map.mpr ⟨x, hx', rfl⟩)
            rcases hx x hx' with ⟨i, rfl⟩ | ⟨b, rfl⟩
            · rfl
            · cases h4
          refine ⟨true, rfl, _, rfl, a, xs.map intOf, rfl, by rw [← e3]; exact seqT s1 hT, by rw [List.length_map]; exact hl, fun H2 s2 => ?_⟩
          exact q _ (s1.trans s2)
    · obtain ⟨t, ty, hk⟩ := NT.ty (K := K) hn
      exact ⟨_, rfl, _, _, _, _, false, rfl, .ty "tuple", ty, hk, false, rfl, q⟩
theorem Rows.ext {H H' : Hp} (s : Same H H') : ∀ {xs : List V} {rs : List (Option (List V))}, Rows K H xs rs → Rows K H' xs rs
  | [], [], _ => trivial
  | _ :: _, _ :: _, h => ⟨h.1.ext s, h.2.ext s⟩
  | [], _ :: _, h => h.elim
  | _ :: _, [], h => h.elim
theorem Rows.len {H : Hp} : ∀ {xs : List V} {rs : List (Option (List V))}, Rows K H xs rs → xs.length = rs.length
  | [], [], _ => rfl
  | _ :: _, _ :: _, h => congrArg Nat.succ h.2.len
  | [], _ :: _, h => h.elim
  | _ :: _, [], h => h.elim
theorem Rows.mem {H : Hp} : ∀ {xs : List V} {rs : List (Option (List V))}, Rows K H xs rs → ∀ p ∈ xs.zip rs, RowV K H p.1 p.2
  | [], [], _, _, hp => (List.not_mem_nil hp).elim
  | _ :: _, _ :: _, h, p, hp => (List.mem_cons.mp hp).elim (fun e => e ▸ h.1) fun z => h.2.mem p z
  | [], _ :: _, h, _, _ => h.elim
  | _ :: _, [], h, _, _ => h.elim
abbrev rLn (K : Frag) : List V → Hp → VK → Prop := fun xs H Q => ∃ p ys, xs = [.ref p] ∧ (SqL K H p ys ∨ SqT K H p ys) ∧ Q (.int ys.length) H
def rowOk (wd m : Int) : Option (List V) → Bool
  | some xs => rowB xs wd m
  | none => false
theorem ok_table {f g : Addr} {fd gd : FuncData} (F : Fun K "is_table" "is_table" sIsTab f fd) (T : TN mg) (A1 : Fn K mg "_is_row" sIsRow ["value", "width", "many"] g gd) (G1 : FnOk P w K mg base CX0 3 g gd ["value", "width", "many"] (spRow K)) :
    FnOk P w K mg base CX0 4 f fd ["value", "width", "most"] (spTab K) := by
  refine F.ok scTb (fun vs H Q E h => ?_) (fun cdv A outer s H vs Q E hr h => ?_)
  · obtain ⟨v, wd, m, rfl, _⟩ := h
    rfl
  · obtain ⟨v, wd, m, rfl, h⟩ := h
    refine ⟨_, pss_cons (ps_if (PW.pt (pw_or (pt_not (pt_val (pe_callB call_isi (by rfl) T.isi (by decide +kernel) (pa_cons (pv 0) (pa_cons (pe_ty "tuple" T.tuple (by decide +kernel)) pa_nil)))))
        (pw_or1 (pt_not (pt_chain op_le op_le pe_int (pe_callB call_len_seq (by rfl) T.len PySem.boot_len (pa_cons (pv 0) pa_nil)) (pv 2)))))) (pss_one (ps_ret pe_bl)) pss_nil)
      (pss_one (ps_ret (pe_callB (cr_all rfl) (by rfl) T.all (by decide +kernel) (pa_cons (pe_lc (own := [("row", 3)]) (g := gName 3) (tt := tYes)
        (te := tCall (spRow K) [] E0 (tCons (tVar 3) (tCons (tVar 1) (tCons (tCB (rLn K) (tCons (tVar 0) tNil)) tNil)))) rfl scTb.nd (pi_tup (pv 0))
        (blkOk_by (own := [("row", 3)]) (N := ["value", "width", "most", "row"]) (sc := defScope sIsTab) (by decide +kernel)) (fun _ _ _ _ _ => pg_name (i := 3) scTb.nd rfl (Or.inl rfl)) (fun _ _ _ _ _ => pts_nil)
        (fun _ _ _ _ _ => pe_call G1 hr rfl A1.g A1.F.kp A1.b .nil pass0 (pa_cons (pv 3) (pa_cons (pv 1) (pa_cons (pe_callB call_len_seq (by rfl) T.len PySem.boot_len (pa_cons (pv 0) pa_nil)) pa_nil))))) pa_nil)))), ?_⟩
    rcases h with ⟨a, xs, rs, rfl, hT, hl, hR, q⟩ | ⟨hn, q⟩
    · refine ⟨_, rfl, _, _, _, _, true, rfl, .ty "tuple", tyT hT, kit_ty (by decide +kernel), true, rfl, ?_⟩
      have hlen := hR.len
      have q0 : ∀ H', Same H H' → Q (.bl (decide (1 ≤ (xs.length : Int)) && decide ((xs.length : Int) ≤ m) && (rs.map (rowOk wd xs.length)).all id)) H' := fun H' s => by
        have e : tabB rs wd m = (decide (1 ≤ (xs.length : Int)) && decide ((xs.length : Int) ≤ m) && (rs.map (rowOk wd xs.length)).all id) := by
          unfold tabB
          rw [hlen]
          rfl
        rw [← e]
        exact q H' s
      refine ⟨_, rfl, a, xs, rfl, .inr hT, _, _, rfl, rfl, _, rfl, ?_⟩
      by_cases h1 : 1 ≤ (xs.length : Int)
      · rw [decide_eq_true h1] at q0 ⊢
        refine ⟨_, rfl, _, _, rfl, rfl, _, rfl, ?_⟩
        by_cases h2 : (xs.length : Int) ≤ m
        · rw [decide_eq_true h2] at q0 ⊢
          refine ⟨_, rfl, a, rfl, ⟨_, hT⟩, fun D hD => ?_⟩
          have hT' : SqT K H a ((xs.zip rs).map (·.1)) := by rw [List.map_fst_zip (Nat.le_of_eq hlen)]; exact hT
          have hz : (xs.zip rs).length < sizeLine := by rw [List.length_zip, sizeLine_eq]; omega
          refine same_tup (l := xs.zip rs) (val := (·.1)) (r := fun p => [V.bl (rowOk wd xs.length p.2)]) hD hT' hz (fun _ => Nat.le_refl _) (fun p hp H1 acc s1 hacc hlen1 N hN => ?_) (fun H1 s1 hd => ?_)
          · refine ⟨rfl, _, rfl, _, rfl, _, rfl, a, xs, rfl, .inr (seqT s1 hT), p.1, _, _, p.2, rfl, (hR.mem p hp).ext s1, fun H2 s2 => ?_⟩
            refine ⟨acc, s2 _ _ hacc, hlen1, hN _ (same_at (s1.trans s2) hD) ?_⟩
            rw [upd_same]
            cases p.2 <;> rfl
          · have e : (xs.zip rs).flatMap (fun p => [V.bl (rowOk wd xs.length p.2)]) = (rs.map (rowOk wd xs.length)).map V.bl := by
              rw [flat_map, List.map_map]
              conv => rhs; rw [← List.map_snd_zip (l₁ := xs) (l₂ := rs) (Nat.le_of_eq hlen.symm)]
              rw [List.map_map] <;> rfl
            rw [e] at hd
            exact ⟨D, _, rfl, SqL.of hd, q0 _ s1⟩
        · rw [decide_eq_false h2] at q0 ⊢
          exact q0 _ (Same.refl H)
      · rw [decide_eq_false h1] at q0 ⊢
        exact ⟨false, rfl, q0 _ (Same.refl H)⟩
    · obtain ⟨t, ty, hk⟩ := NT.ty (K := K) hn
      exact ⟨_, rfl, _, _, _, _, false, rfl, .ty "tuple", ty, hk, false, rfl, q⟩
end
end WK
set_option Elab.async false
set_option linter.all false
set_option maxRecDepth 100000
set_option maxHeartbeats 4000000
namespace WK
open PySem L2 PyProof.Rows LCX K1
def Bel (n : Int) (ns : List Int) : Prop := ∀ i ∈ ns, 0 ≤ i ∧ i < n
abbrev oTup (r : List Int) : HO := .tup (r.map V.int)
/-- at these places stand these rows -/
def Objs (mk : List Int → HO) (H : Hp) : List Addr → List (List Int) → Prop
  | [], [] => True
  | a :: as, r :: rs => H a = some (mk r) ∧ Objs mk H as rs
  | _, _ => False
theorem Objs.to {mk : List Int → HO} {H H' : Hp} : ∀ {as : List Addr} {rs : List (List Int)}, Objs mk H as rs → (∀ a ∈ as, ∀ r, H a = some (mk r) → H' a = some (mk r)) → Objs mk H' as rs
  | [], [], _, _ => trivial
  | a :: as, _ :: _, h, k => ⟨k a (.head _) _ h.1, h.2.to fun b hb => k b (.tail _ hb)⟩
  | [], _ :: _, h, _ => h.elim
  | _ :: _, [], h, _ => h.elim
theorem Objs.snoc {mk : List Int → HO} {H : Hp} {b : Addr} {s : List Int} : ∀ {as : List Addr} {rs : List (List Int)}, Objs mk H as rs → H b = some (mk s) → Objs mk H (as ++ [b]) (rs ++ [s])
  | [], [], _, k => ⟨k, trivial⟩
  | _ :: _, _ :: _, h, k => ⟨h.1, h.2.snoc k⟩
  | [], _ :: _, h, _ => h.elim
  | _ :: _, [], h, _ => h.elim
theorem Objs.len {mk : List Int → HO} {H : Hp} : ∀ {as : List Addr} {rs : List (List Int)}, Objs mk H as rs → as.length = rs.length
  | [], [], _ => rfl
  | _ :: _, _ :: _, h => congrArg Nat.succ h.2.len
  | [], _ :: _, h => h.elim
  | _ :: _, [], h => h.elim
theorem Objs.at_ {mk : List Int → HO} {H : Hp} : ∀ {as : List Addr} {rs : List (List Int)}, Objs mk H as rs → ∀ p ∈ as.zip rs, H p.1 = some (mk p.2)
  | [], [], _, _, hp => (List.not_mem_nil hp).elim
  | _ :: _, _ :: _, h, p, hp => (List.mem_cons.mp hp).elim (fun e => e ▸ h.1) fun z => h.2.at_ p z
  | [], _ :: _, h, _, _ => h.elim
  | _ :: _, [], h, _, _ => h.elim
theorem Objs.mem {mk : List Int → HO} {H : Hp} : ∀ {as : List Addr} {rs : List (List Int)}, Objs mk H as rs → ∀ a ∈ as, ∃ r ∈ rs, H a = some (mk r)
  | [], [], _, _, ha => (List.not_mem_nil ha).elim
  | _ :: _, _ :: _, h, a, ha => (List.mem_cons.mp ha).elim (fun e => ⟨_, .head _, e ▸ h.1⟩) fun z => let ⟨r, hr, e⟩ := h.2.mem a z; ⟨r, .tail _ hr, e⟩
  | [], _ :: _, h, _, _ => h.elim
  | _ :: _, [], h, _, _ => h.elim
/-- a def as it stands, defaults or none; nothing is raised in it -/
theorem fn_ofN {P : Program} {w : World} {K : PySem.W.Frag} {mg : Str → Option Value} {base : Heap} {k : Nat} {f : Addr} {name qual : Str} {params : Arguments} {body : List Stmt} {scope : Scope} {dV kV doc pm cdv ct oc : Value} {an od : Option Addr} {osl : Array (Option Value)} {N ps : List Str} {sp : Sp}
    (lk : K.lookup f = some ⟨oc, od, .func (PySem.W.fnOf name qual params body scope dV kV doc pm an cdv ct), osl⟩) (hcd : PySem.W.codeIn K cdv qual = true) (S : FnScope N ps scope) (len : ∀ (vs : List V) (H : Hp) (Q : VK) (E : XK), sp vs H Q E → vs.length = ps.length)
    (h : ∀ (A : Around) (outer : List Env) (s : Shared) (H : Hp) (vs : List V) (Q : VK) (E : XK), Room k (A.deeper (envOfC qual scope s.heap.objs.size f cdv)) → sp vs H Q E →
      ∃ t, PSs (cxOf CX0 P w K mg base N qual scope f cdv A outer s H E).nox body t ∧ t { nx := fun x H' => Q V.non H', rt := Q } (L2.start N vs) H) :
    FnOk P w K mg base CX0 (k + 1) f (PySem.W.fnOf name qual params body scope dV kV doc pm an cdv ct) ps sp :=
  fn_of lk hcd S len fun A outer s H vs Q E hr hs => let ⟨t, a, b⟩ := h A outer s H vs Q E hr hs; ⟨t, a.nox, b⟩
end WK
set_option Elab.async false
set_option linter.all false
set_option maxRecDepth 100000
set_option maxHeartbeats 8000000
namespace WK
open PySem L2 PyProof.Rows LCX
open PySem.W (Frag kitOne)
abbrev sAct : Stmt := top 91
abbrev sLTab : Stmt := top 92
abbrev sLMac : Stmt := top 93
theorem noD {H H' : Hp} {p D : Addr} (b : But p H H') (h : H' D = none) (hD : DiceAt H' p) : H D = none := but_free b h (hD.ne h)
/-- a list of drawn numbers: the dice roll at each turn -/
theorem rolls {g : TG} {tt : TT} {te : TE} {vs : List Nat} {σ : L2.St} {p D : Addr} {H : Hp} {n : Nat} {Qd : Hp → Prop} (good : Int → Prop) (hn : n < sizeLine) (hD : DiceAt H p) (hd : H D = none)
    (hs : ∀ i : Nat, i < n → ∀ (H3 : Hp) (ns : List Int), DiceAt H3 p → H3 D = some (.lst (ns.map V.int)) → ns.length = i → ∀ N : Hp → Prop, (∀ (k : Int) (H4 : Hp), good k → DiceAt H4 p → But p H3 H4 → N (upd H4 D (.lst (ns.map V.int ++ [V.int k])))) →
      Turn g tt te vs σ D (.int (0 + i)) H3 N)
    (hq : ∀ (H3 : Hp) (ns : List Int), DiceAt H3 p → But p H H3 → H3 D = some (.lst (ns.map V.int)) → ns.length = n → (∀ k ∈ ns, good k) → Qd H3) : Went (Itr 0 n) g tt te vs σ D H Qd := by
  have Dp := hD.ne hd
  refine lc_range (lo := 0) (n := n) (fun i H3 => DiceAt H3 p ∧ But p H H3 ∧ ∃ ns : List Int, ns.length = i ∧ (∀ k ∈ ns, good k) ∧ H3 D = some (.lst (ns.map V.int))) ⟨hD.new hd, but_two (But.refl p H) hd, [], rfl, fun k hk => (nomatch hk), upd_same⟩ ?_ ?_
  · rintro i H3 hi ⟨hD3, hB3, ns, hl, hg, h3⟩
    refine hs i hi H3 ns hD3 h3 hl _ fun k H4 hk hD4 hB4 => ⟨hD4.keep fun o e => by rw [upd_ne (Ne.symm Dp)]; exact e, but_at (hB3.trans hB4) hd, ns ++ [k], ?_, ?_, ?_⟩
    · rw [List.length_append, hl] <;> rfl
    · intro j hj
      rcases List.mem_append.mp hj with z | z
      · exact hg j z
      · rw [List.mem_singleton.mp z]
        exact hk
    · rw [upd_same, List.map_append] <;> rfl
  · rintro H3 ⟨hD3, hB3, ns, hl, hg, h3⟩
    exact hq H3 ns hD3 hB3 h3 hl hg
theorem rgV_bel {n : Int} (h : 0 ≤ n) : ∃ ns : List Int, rgV 0 n = ns.map V.int ∧ (ns.length : Int) = n ∧ Bel n ns := by
  refine ⟨(List.range (n - 0).toNat).map fun i => 0 + ((i : Nat) : Int), by rw [List.map_map] <;> rfl, by rw [List.length_map, List.length_range]; omega, fun i hi => ?_⟩
  obtain ⟨j, hj, rfl⟩ := List.mem_map.mp hi
  have := List.mem_range.mp hj
  omega
def spAct : Sp := fun vs H Q _ => ∃ (p : Addr) (n s : Int), vs = [.ref p, .int n, .int s] ∧ DiceAt H p ∧ 1 ≤ n ∧ n ≤ 60 ∧ ∀ (l : Addr) (ns : List Int) (H' : Hp), H l = none → l ≠ p → DiceAt H' p → But p H H' → H' l = some (.lst (ns.map V.int)) → (ns.length : Int) = n → Bel n ns → Q (.ref l) H'
abbrev NAc : List Str := ["_law_dice_here", "_law_size", "_law_sort", "_law_spot", "_law_by", "_law_found", "_law_one", "_law_other", "_law_place"]
section
variable {P : Program} {w : World} {K : PySem.W.Frag} {mg : Str → Option Value} {base : Heap} {fR fO fA fT : Addr} {dR dO dA dT : FuncData}
theorem scAc : FnScope NAc ["_law_dice_here", "_law_size", "_law_sort"] (defScope sAct) := ⟨rfl, rfl, rfl, by decide +kernel, rfl, by decide +kernel, by decide +kernel⟩
theorem Bel.set {n b : Int} {ns : List Int} (h : Bel n ns) (hb : 0 ≤ b ∧ b < n) (j : Nat) : Bel n (ns.set j b) := fun i hi => (List.mem_or_eq_of_mem_set hi).elim (h i) fun e => e ▸ hb
theorem ixN_in {n : Nat} {i : Int} (h0 : 0 ≤ i) (h1 : i < n) : ixN n i = some i.toNat := by
  unfold ixN
  rw [if_pos h0, if_pos h1]
theorem ok_act {f : Addr} {fd : FuncData} (F : Fun K "_law_action" "_law_action" sAct f fd) (T : TN mg) (AR : Fn K mg "_law_roll" sRoll ["_law_dice_here", "_law_total"] fR dR) :
    FnOk P w K mg base CX0 2 f fd ["_law_dice_here", "_law_size", "_law_sort"] spAct := by
  have GR : FnOk P w K mg base CX0 1 fR dR ["_law_dice_here", "_law_total"] spRoll := ok_roll AR.F T.dice
  refine F.ok scAc (fun vs H Q E h => ?_) (fun cdv A outer s H vs Q E hr h => ?_)
  · obtain ⟨p, n, s, rfl, _⟩ := h
    rfl
  · obtain ⟨p, n, s, rfl, hD, h1, h60, q⟩ := h
    refine ⟨_, pss_cons (ps_if (pt_cmpR op_eq (pv 2) pe_int (nomark _)) (pss_one (ps_ret (pe_lc (own := [("_law_place", 8)]) (g := gName 8) (tt := tYes) rfl scAc.nd (pi_range1 rfl T.rng (pa_cons (pv 1) pa_nil))
        (blkOk_by (own := [("_law_place", 8)]) (N := NAc) (sc := defScope sAct) (by decide +kernel)) (fun _ _ _ _ _ => pg_name (i := 8) scAc.nd rfl (Or.inl rfl)) (fun _ _ _ _ _ => pts_nil)
        (fun _ _ _ _ _ => pe_op op_add (pv 8) (pe_call GR hr rfl AR.g AR.F.kp AR.b .nil pass0 (pa_cons (pv 0) (pa_cons (pe_op op_sub (pv 1) (pv 8)) pa_nil))))))) pss_nil)
      (pss_cons (ps_if (pt_cmpR op_eq (pv 2) pe_int (nomark _)) (pss_cons (ps_set (i := 3) scAc.nd rfl (Or.inr rfl) (pe_call GR hr rfl AR.g AR.F.kp AR.b .nil pass0 (pa_cons (pv 0) (pa_cons (pv 1) pa_nil))))
        (pss_one (ps_ret (pe_lc (own := [("_law_place", 8)]) (g := gName 8) (tt := tYes) rfl scAc.nd (pi_range1 rfl T.rng (pa_cons (pv 1) pa_nil))
        (blkOk_by (own := [("_law_place", 8)]) (N := NAc) (sc := defScope sAct) (by decide +kernel)) (fun _ _ _ _ _ => pg_name (i := 8) scAc.nd rfl (Or.inl rfl)) (fun _ _ _ _ _ => pts_nil)
        (fun _ _ _ _ _ => pv 3))))) pss_nil)
      (pss_cons (ps_if (pt_cmpR op_eq (pv 2) pe_int (nomark _)) (pss_cons (ps_set (i := 4) scAc.nd rfl (Or.inr rfl) (pe_call GR hr rfl AR.g AR.F.kp AR.b .nil pass0 (pa_cons (pv 0) (pa_cons (pv 1) pa_nil))))
        (pss_one (ps_ret (pe_lc (own := [("_law_place", 8)]) (g := gName 8) (tt := tYes) rfl scAc.nd (pi_range1 rfl T.rng (pa_cons (pv 1) pa_nil))
        (blkOk_by (own := [("_law_place", 8)]) (N := NAc) (sc := defScope sAct) (by decide +kernel)) (fun _ _ _ _ _ => pg_name (i := 8) scAc.nd rfl (Or.inl rfl)) (fun _ _ _ _ _ => pts_nil)
        (fun _ _ _ _ _ => pe_op op_mod (pe_callTy call_int1 (by rfl) T.int (by decide +kernel) (pa_cons (pe_op op_add (pv 8) (pv 4)) pa_nil)) (pv 1)))))) pss_nil)
      (pss_cons (ps_if (pt_cmpR op_eq (pv 2) pe_int (nomark _)) (pss_one (ps_ret (pe_listRg rfl rfl T.list (prg_1 rfl T.rng (pv 1))))) pss_nil)
      (pss_cons (ps_if (pt_cmpR op_eq (pv 2) pe_int (nomark _)) (pss_one (ps_ret (pe_callB cr_sorted (by rfl) T.sorted (by decide +kernel) (pa_cons (pe_lc (own := [("_law_place", 8)]) (g := gName 8) (tt := tYes) rfl scAc.nd (pi_range1 rfl T.rng (pa_cons (pv 1) pa_nil))
        (blkOk_by (own := [("_law_place", 8)]) (N := NAc) (sc := defScope sAct) (by decide +kernel)) (fun _ _ _ _ _ => pg_name (i := 8) scAc.nd rfl (Or.inl rfl)) (fun _ _ _ _ _ => pts_nil)
        (fun _ _ _ _ _ => pe_call GR hr rfl AR.g AR.F.kp AR.b .nil pass0 (pa_cons (pv 0) (pa_cons (pv 1) pa_nil)))) pa_nil)))) pss_nil)
      (pss_cons (ps_set (i := 5) scAc.nd rfl (Or.inl rfl) (pe_ifExp (pt_cmpR op_eq (pv 2) pe_int (nomark _)) (pe_lc (own := [("_law_place", 8)]) (g := gName 8) (tt := tYes) rfl scAc.nd (pi_range1 rfl T.rng (pa_cons (pv 1) pa_nil))
        (blkOk_by (own := [("_law_place", 8)]) (N := NAc) (sc := defScope sAct) (by decide +kernel)) (fun _ _ _ _ _ => pg_name (i := 8) scAc.nd rfl (Or.inl rfl)) (fun _ _ _ _ _ => pts_nil)
        (fun _ _ _ _ _ => pe_call GR hr rfl AR.g AR.F.kp AR.b .nil pass0 (pa_cons (pv 0) (pa_cons (pv 1) pa_nil)))) (pe_listRg rfl rfl T.list (prg_1 rfl T.rng (pv 1)))))
      (pss_cons (ps_if (pt_cmpR op_eq (pv 2) pe_int (nomark _)) (pss_cons (ps_par rfl scAc.nd (i := 6) (j := 7) rfl rfl (by decide) rfl rfl (pa_cons (pe_call GR hr rfl AR.g AR.F.kp AR.b .nil pass0 (pa_cons (pv 0) (pa_cons (pv 1) pa_nil))) (pa_cons (pe_call GR hr rfl AR.g AR.F.kp AR.b .nil pass0 (pa_cons (pv 0) (pa_cons (pv 1) pa_nil))) pa_nil)) (by rfl))
        (pss_one (ps_asg (pe_tup (pa_cons (pv 7) (pa_cons (pv 6) pa_nil))) (pg_tup (by rfl) (pgs_cons (pg_sub (pv 5) (pv 6) set_list (fun _ => rfl)) (pgs_cons (pg_sub (pv 5) (pv 7) set_list (fun _ => rfl)) pgs_nil)))))) pss_nil)
      (pss_one (ps_ret (pv 5))))))))), ?_⟩
    have hn : n.toNat < sizeLine := by rw [sizeLine_eq]; omega
    have hln : ∀ ns : List Int, ns.length = n.toNat → (ns.length : Int) = n := fun ns e => by omega
    have hsz : ∀ (i : Nat) (ns : List Int), ns.length = i → i < n.toNat → (ns.map V.int).length < sizeLine := fun i ns e hi => by rw [List.length_map, sizeLine_eq]; omega
    have hrg : RgOk 0 n := RgOk.of_le (by decide) (by omega) (by decide) (by omega)
    -- 1: up
    refine ⟨_, rfl, rfl, _, rfl, ite2 (fun _ => ?_) (fun _ => ?_)⟩
    · refine ⟨_, rfl, _, rfl, by omega, by omega, fun D hD2 => ?_⟩
      refine rolls (fun k => 0 ≤ k ∧ k < n) hn hD hD2 (fun i hi H3 ns hD3 h3 hli N hN => ?_) fun H3 ns hD3 hB3 h3 hl hg => q D ns H3 hD2 (hD.ne hD2) hD3 hB3 h3 (hln ns hl) hg
      refine ⟨rfl, _, rfl, _, rfl, _, rfl, _, rfl, _, _, rfl, rfl, p, _, rfl, hD3, by omega, by omega, fun r H4 r0 r1 hD4 hB4 => ⟨_, _, rfl, rfl, _, hB4 _ _ h3 (hD.ne hD2), hsz i ns hli hi, hN _ H4 ⟨by omega, by omega⟩ hD4 hB4⟩⟩
    -- 2: to one place
    refine ⟨_, rfl, rfl, _, rfl, ite2 (fun _ => ?_) (fun _ => ?_)⟩
    · refine ⟨_, rfl, _, rfl, p, _, rfl, hD, by omega, by omega, fun r H1 r0 r1 hD1 hB1 => ?_⟩
      refine ⟨_, rfl, _, rfl, by omega, by omega, fun D hD2 => ?_⟩
      refine rolls (fun k => 0 ≤ k ∧ k < n) hn hD1 hD2 (fun i hi H3 ns hD3 h3 hli N hN => ?_) fun H3 ns hD3 hB3 h3 hl hg => q D ns H3 (noD hB1 hD2 hD1) (hD1.ne hD2) hD3 (hB1.trans hB3) h3 (hln ns hl) hg
      refine ⟨rfl, _, rfl, _, h3, hsz i ns hli hi, hN _ H3 ⟨r0, r1⟩ hD3 (But.refl _ _)⟩
    -- 3: round
    refine ⟨_, rfl, rfl, _, rfl, ite2 (fun _ => ?_) (fun _ => ?_)⟩
    · refine ⟨_, rfl, _, rfl, p, _, rfl, hD, by omega, by omega, fun r H1 r0 r1 hD1 hB1 => ?_⟩
      refine ⟨_, rfl, _, rfl, by omega, by omega, fun D hD2 => ?_⟩
      refine rolls (fun k => 0 ≤ k ∧ k < n) hn hD1 hD2 (fun i hi H3 ns hD3 h3 hli N hN => ?_) fun H3 ns hD3 hB3 h3 hl hg => q D ns H3 (noD hB1 hD2 hD1) (hD1.ne hD2) hD3 (hB1.trans hB3) h3 (hln ns hl) hg
      refine ⟨rfl, _, rfl, _, rfl, _, _, rfl, rfl, .inl ⟨_, rfl, _, rfl, _, _, rfl, rfl, by omega, _, h3, hsz i ns hli hi, hN _ H3 ⟨?_, ?_⟩ hD3 (But.refl _ _)⟩⟩
      · exact Int.emod_nonneg _ (by omega)
      · exact Int.emod_lt_of_pos _ (by omega)
    -- 4: nowhere
    refine ⟨_, rfl, rfl, _, rfl, ite2 (fun _ => ?_) (fun _ => ?_)⟩
    · refine ⟨_, rfl, n, rfl, hrg, fun l hl => ?_⟩
      obtain ⟨ns, e, hl1, hb⟩ := rgV_bel (n := n) (by omega)
      exact q l ns _ hl (hD.ne hl) (hD.new hl) (but_two (But.refl _ _) hl) (by rw [upd_same, e]) hl1 hb
    -- 5: in order
    refine ⟨_, rfl, rfl, _, rfl, ite2 (fun _ => ?_) (fun _ => ?_)⟩
    · refine ⟨_, rfl, _, rfl, by omega, by omega, fun D hD2 => ?_⟩
      refine rolls (fun k => 0 ≤ k ∧ k < n) hn hD hD2 (fun i hi H3 ns hD3 h3 hli N hN => ?_) fun H3 ns hD3 hB3 h3 hl hg => ?_
      · refine ⟨rfl, _, rfl, _, rfl, p, _, rfl, hD3, by omega, by omega, fun r H4 r0 r1 hD4 hB4 => ⟨_, hB4 _ _ h3 (hD.ne hD2), hsz i ns hli hi, hN _ H4 ⟨r0, r1⟩ hD4 hB4⟩⟩
      · refine ⟨D, ns, rfl, SqL.of h3, by omega, fun ns' t hp _ ht => ?_⟩
        exact q t ns' _ (noD hB3 ht hD3) (hD3.ne ht) (hD3.new ht) (but_two hB3 ht) upd_same (by rw [hp.length_eq]; exact hln ns hl) fun k hk => hg k (hp.mem_iff.mp hk)
    -- anyhow, or in order; then perhaps two exchanged
    refine ⟨_, rfl, rfl, _, rfl, ite2 (fun _ => ?_) (fun _ => ?_)⟩
    · refine ⟨_, rfl, _, rfl, by omega, by omega, fun l hl0 => ?_⟩
      refine rolls (fun k => 0 ≤ k ∧ k < n) hn hD hl0 (fun i hi H3 ns hD3 h3 hli N hN => ?_) fun H3 ns hD3 hB3 h3 hl hg => ?_
      · exact ⟨rfl, _, rfl, _, rfl, p, _, rfl, hD3, by omega, by omega, fun r H4 r0 r1 hD4 hB4 => ⟨_, hB4 _ _ h3 (hD.ne hl0), hsz i ns hli hi, hN _ H4 ⟨r0, r1⟩ hD4 hB4⟩⟩
      have lp := hD.ne hl0
      have hlen := hln ns hl
      have hb : Bel n ns := hg
      clear hl hg
      refine ⟨_, rfl, rfl, _, rfl, ite2 (fun _ => ?_) (fun _ => ?_)⟩
      refine ⟨_, rfl, _, rfl, p, _, rfl, hD3, by omega, by omega, fun a H4 a0 a1 hD4 hB4 => ?_⟩
      refine ⟨_, rfl, _, rfl, p, _, rfl, hD4, by omega, by omega, fun b H5 b0 b1 hD5 hB5 => ?_⟩
      refine ⟨_, _, rfl, ?_⟩
      refine ⟨_, rfl, _, rfl, (by rw [sizeLine_eq]; show 2 ≤ 16777216; decide), fun t ht => ?_⟩
      have h5 : H5 l = some (.lst (ns.map V.int)) := hB5 _ _ (hB4 _ _ h3 lp) lp
      have h6 : (upd H5 t (.tup [V.int b, V.int a])) l = some (.lst (ns.map V.int)) := same_upd ht _ _ h5
      refine ⟨t, _, rfl, SqT.of upd_same, rfl, ?_⟩
      refine ⟨_, _, rfl, _, rfl, _, rfl, l, _, a, a.toNat, rfl, rfl, h6, ixN_in a0 (by rw [List.length_map]; omega), ?_⟩
      refine ⟨_, _, rfl, _, rfl, _, rfl, l, _, b, b.toNat, rfl, rfl, upd_same, ixN_in b0 (by rw [List.length_set, List.length_map]; omega), ?_⟩
      have kp : ∀ (G : Hp) (o : HO), DiceAt G p → DiceAt (upd G l o) p := fun G o hG => hG.keep fun _ e => by rw [upd_ne (Ne.symm lp)]; exact e
      refine ⟨rfl, _, rfl, q l ((ns.set a.toNat b).set b.toNat a) _ hl0 lp (kp _ _ (kp _ _ (hD5.new ht))) (but_at (but_at (but_two ((hB3.trans hB4).trans hB5) ht) hl0) hl0) (by rw [upd_same, List.map_set, List.map_set]) (by rw [List.length_set, List.length_set]; exact hlen) ((hb.set ⟨b0, b1⟩ _).set ⟨a0, a1⟩ _)⟩
      exact ⟨_, rfl, q l ns H3 hl0 lp hD3 hB3 h3 hlen hb⟩
    · refine ⟨_, rfl, n, rfl, hrg, fun l hl0 => ?_⟩
      obtain ⟨ns, e, hl1, hb⟩ := rgV_bel (n := n) (by omega)
      have lp := hD.ne hl0
      have hlen := hl1
      have hD3 : DiceAt (upd H l (.lst (rgV 0 n))) p := hD.new hl0
      have hB3 : But p H (upd H l (.lst (rgV 0 n))) := but_two (But.refl _ _) hl0
      have h3 : (upd H l (.lst (rgV 0 n))) l = some (.lst (ns.map V.int)) := by rw [upd_same, e]
      clear hl1 e
      generalize upd H l (.lst (rgV 0 n)) = H3 at hD3 hB3 h3 ⊢
      refine ⟨_, rfl, rfl, _, rfl, ite2 (fun _ => ?_) (fun _ => ?_)⟩
      refine ⟨_, rfl, _, rfl, p, _, rfl, hD3, by omega, by omega, fun a H4 a0 a1 hD4 hB4 => ?_⟩
      refine ⟨_, rfl, _, rfl, p, _, rfl, hD4, by omega, by omega, fun b H5 b0 b1 hD5 hB5 => ?_⟩
      refine ⟨_, _, rfl, ?_⟩
      refine ⟨_, rfl, _, rfl, (by rw [sizeLine_eq]; show 2 ≤ 16777216; decide), fun t ht => ?_⟩
      have h5 : H5 l = some (.lst (ns.map V.int)) := hB5 _ _ (hB4 _ _ h3 lp) lp
      have h6 : (upd H5 t (.tup [V.int b, V.int a])) l = some (.lst (ns.map V.int)) := same_upd ht _ _ h5
      refine ⟨t, _, rfl, SqT.of upd_same, rfl, ?_⟩
      refine ⟨_, _, rfl, _, rfl, _, rfl, l, _, a, a.toNat, rfl, rfl, h6, ixN_in a0 (by rw [List.length_map]; omega), ?_⟩
      refine ⟨_, _, rfl, _, rfl, _, rfl, l, _, b, b.toNat, rfl, rfl, upd_same, ixN_in b0 (by rw [List.length_set, List.length_map]; omega), ?_⟩
      have kp : ∀ (G : Hp) (o : HO), DiceAt G p → DiceAt (upd G l o) p := fun G o hG => hG.keep fun _ e => by rw [upd_ne (Ne.symm lp)]; exact e
      refine ⟨rfl, _, rfl, q l ((ns.set a.toNat b).set b.toNat a) _ hl0 lp (kp _ _ (kp _ _ (hD5.new ht))) (but_at (but_at (but_two ((hB3.trans hB4).trans hB5) ht) hl0) hl0) (by rw [upd_same, List.map_set, List.map_set]) (by rw [List.length_set, List.length_set]; exact hlen) ((hb.set ⟨b0, b1⟩ _).set ⟨a0, a1⟩ _)⟩
      exact ⟨_, rfl, q l ns H3 hl0 lp hD3 hB3 h3 hlen hb⟩
end
end WK
set_option Elab.async false
set_option linter.all false
set_option maxRecDepth 100000
set_option maxHeartbeats 8000000
namespace WK
open PySem L2 PyProof.Rows LCX K1
open TX (sg sigs)
open PySem.W (Frag kitOne)
abbrev oLst (r : List Int) : HO := .lst (r.map V.int)
/-- a plain table at l: a list of tuples -/
def PTab (H : Hp) (l : Addr) (tb : List (List Int)) : Prop := ∃ as, H l = some (.lst (as.map V.ref)) ∧ Objs oTup H as tb
/-- a table of n rows, each of wd numbers below n -/
structure TabOk (tb : List (List Int)) (wd : Nat) (n : Int) : Prop where
  len : (tb.length : Int) = n
  row : ∀ r ∈ tb, r.length = wd ∧ Bel n r
theorem DiceAt.tup {H : Hp} {p a : Addr} {xs : List V} (h : DiceAt H p) (e : H a = some (.tup xs)) : a ≠ p := fun z => by
  obtain ⟨x, y, w, k, _⟩ := h
  rw [z, k] at e
  cases e
theorem PTab.but {H H' : Hp} {p l : Addr} {tb : List (List Int)} (h : PTab H l tb) (lp : l ≠ p) (hD : DiceAt H p) (b : But p H H') : PTab H' l tb := by
  obtain ⟨as, h1, h2⟩ := h
  exact ⟨as, b _ _ h1 lp, h2.to fun a _ r e => b _ _ e (hD.tup e)⟩
def spLTab : Sp := fun vs H Q _ => ∃ (p q : Addr) (L : W) (n : Int) (ss : List Int), vs = [.ref p, .str (tx L), .int n, .ref q] ∧ DiceAt H p ∧ L ≠ [] ∧ L.length ≤ 26 ∧ 1 ≤ n ∧ n ≤ 60 ∧ q ≠ p ∧ H q = some (.lst (ss.map V.int)) ∧ ss ≠ [] ∧ ss.length ≤ 100 ∧
  ∀ (l : Addr) (tb : List (List Int)) (H' : Hp), H l = none → l ≠ p → DiceAt H' p → But p H H' → PTab H' l tb → TabOk tb L.length n → Q (.ref l) H'
abbrev NTb : List Str := ["_law_dice_here", "_law_letters", "_law_size", "_law_sorts", "_law_rows", "_law_letter", "_law_place", "_law_row"]
abbrev scT2 : Scope := { kind := .function, names := [(".0", .local), ("_law_place", .cell), ("tuple", .globalImplicit), ("_law_rows", .cell)], isGenerator := false, isCoroutine := false }
abbrev rTupL (K : Frag) : List V → Hp → VK → Prop := fun xs H Q => ∃ p ys, xs = [.ref p] ∧ ((SqL K H p ys ∧ ∀ l, H l = none → Q (.ref l) (upd H l (.tup ys))) ∨ (SqT K H p ys ∧ Q (.ref p) H))
section
variable {P : Program} {w : World} {K : PySem.W.Frag} {mg : Str → Option Value} {base : Heap} {fR fO fA fT : Addr} {dR dO dA dT : FuncData}
theorem scTa : FnScope NTb ["_law_dice_here", "_law_letters", "_law_size", "_law_sorts"] (defScope sLTab) := ⟨rfl, rfl, rfl, by decide +kernel, rfl, by decide +kernel, by decide +kernel⟩
theorem ok_ltab {f : Addr} {fd : FuncData} (F : Fun K "_law_table" "_law_table" sLTab f fd) (T : TN mg) (AR : Fn K mg "_law_roll" sRoll ["_law_dice_here", "_law_total"] fR dR) (AO : Fn K mg "_law_one_of" sOne ["_law_dice_here", "_law_items"] fO dO)
    (AA : Fn K mg "_law_action" sAct ["_law_dice_here", "_law_size", "_law_sort"] fA dA) : FnOk P w K mg base CX0 3 f fd ["_law_dice_here", "_law_letters", "_law_size", "_law_sorts"] spLTab := by
  have GO : FnOk P w K mg base CX0 2 fO dO ["_law_dice_here", "_law_items"] spOne := ok_one AO.F T.dice AR.g AR.F AR.b
  have GA : FnOk P w K mg base CX0 2 fA dA ["_law_dice_here", "_law_size", "_law_sort"] spAct := ok_act AA.F T AR
  refine F.ok scTa (fun vs H Q E h => ?_) (fun cdv A outer s H vs Q E hr h => ?_)
  · obtain ⟨p, q, L, n, ss, rfl, _⟩ := h
    rfl
  · obtain ⟨p, q, L, n, ss, rfl, hD, hL, hL2, h1, h60, qp, hq, hs0, hs1, k⟩ := h
    refine ⟨_, pss_cons (ps_set (i := 4) scTa.nd rfl (Or.inr rfl) (pe_lc (own := [("_law_letter", 5)]) (g := gName 5) (tt := tYes) rfl scTa.nd (pi_str (pv 1))
        (blkOk_by (own := [("_law_letter", 5)]) (N := NTb) (sc := defScope sLTab) (by decide +kernel)) (fun _ _ _ _ _ => pg_name (i := 5) scTa.nd rfl (Or.inl rfl)) (fun _ _ _ _ _ => pts_nil)
        (fun _ _ _ _ _ => pe_call GA hr rfl AA.g AA.F.kp AA.b .nil pass0 (pa_cons (pv 0) (pa_cons (pv 2) (pa_cons (pe_call GO hr rfl AO.g AO.F.kp AO.b .nil pass0 (pa_cons (pv 0) (pa_cons (pv 3) pa_nil))) pa_nil))))))
      (pss_one (ps_ret (pe_lc (own := [("_law_place", 6)]) (g := gName 6) (tt := tYes) (te := tCB (rTupL K) (tCons (tLc (iList K (tVar 4)) (gName 7) tYes (tOp (rIxL K) (tVar 7) (tVar 6)) [7]) tNil)) rfl scTa.nd (pi_range1 rfl T.rng (pa_cons (pv 2) pa_nil))
        (blkOk_by (own := [("_law_place", 6)]) (N := NTb) (sc := defScope sLTab) (by decide +kernel)) (fun _ _ _ _ _ => pg_name (i := 6) scTa.nd rfl (Or.inr rfl)) (fun _ _ _ _ _ => pts_nil)
        (fun _ _ _ _ _ => pe_callTy call_tuple_of (by rfl) T.tuple (by decide +kernel) (pa_cons (pe_lc (own := [("_law_row", 7)]) (g := gName 7) (tt := tYes) (te := tOp (rIxL K) (tVar 7) (tVar 6)) rfl scTa.nd (pi_list (pv 4))
          (blkOk_by (own := [("_law_row", 7)]) (N := NTb) (sc := scT2) (by decide +kernel)) (fun _ _ _ _ _ => pg_name (i := 7) scTa.nd rfl (Or.inl rfl)) (fun _ _ _ _ _ => pts_nil)
          (fun _ _ _ _ _ => pe_ix ix_list (pv 7) (pv 6) (fun _ _ => rfl))) pa_nil))))), ?_⟩
    have ssp : 0 < (ss.map V.int).length := by rw [List.length_map]; exact List.length_pos_iff.mpr hs0
    have ss1 : (ss.map V.int).length < 1000000 := by rw [List.length_map]; omega
    refine ⟨_, rfl, tx L, rfl, fun D hD2 => ?_⟩
    have Dp := hD.ne hD2
    have qD : q ≠ D := ne_of_none hq hD2
    refine lc_it walk_str (fun i H3 => DiceAt H3 p ∧ But p H H3 ∧ ∃ (as : List Addr) (rs : List (List Int)), as.length = i ∧ H3 D = some (.lst (as.map V.ref)) ∧ Objs oLst H3 as rs ∧ (∀ r ∈ rs, (r.length : Int) = n ∧ Bel n r) ∧ ∀ a ∈ as, a ≠ D ∧ a ≠ p)
      ⟨hD.new hD2, but_two (But.refl p H) hD2, [], [], rfl, upd_same, trivial, fun r hr => (nomatch hr), fun r hr => (nomatch hr)⟩ (fun _ _ _ _ => trivial) ?_ ?_
    · rintro i x H3 H4 hi ⟨hD4, hB4, as, rs, hl, hd, ho, hr2, hn⟩ ⟨rfl, c, hx, rfl⟩
      have hx' : L[i]? = some c := by
        rw [← Array.getElem?_toList, tx_list] at hx
        exact hx
      have hiL := (List.getElem?_eq_some_iff.mp hx').1
      refine ⟨rfl, _, rfl, _, rfl, _, rfl, _, rfl, p, q, _, rfl, hD4, qp, hB4 _ _ hq qp, ssp, ss1, fun v H5 hv hD5 hB5 => ?_⟩
      obtain ⟨s0, _, rfl⟩ := List.mem_map.mp hv
      refine ⟨p, n, s0, rfl, hD5, h1, h60, fun l ns H6 hl6 lp hD6 hB6 h6 hlen hb => ?_⟩
      have hd6 : H6 D = some (.lst (as.map V.ref)) := hB6 _ _ (hB5 _ _ hd Dp) Dp
      have lD : l ≠ D := fun z => by rw [z, hB5 _ _ hd Dp] at hl6; cases hl6
      have ho6 : Objs oLst H6 as rs := ho.to fun a ha r e => hB6 _ _ (hB5 _ _ e (hn a ha).2) (hn a ha).2
      refine ⟨_, hd6, by rw [List.length_map, sizeLine_eq]; omega, hD6.keep fun o e => by rw [upd_ne (Ne.symm Dp)]; exact e, but_at ((hB4.trans hB5).trans hB6) hD2, as ++ [l], rs ++ [ns], by rw [List.length_append, hl] <;> rfl, by rw [upd_same, List.map_append] <;> rfl, ?_, ?_, ?_⟩
      · refine Objs.snoc (ho6.to fun a ha r e => by rw [upd_ne (hn a ha).1]; exact e) (by rw [upd_ne lD]; exact h6)
      · intro r hr
        rcases List.mem_append.mp hr with z | z
        · exact hr2 r z
        · rw [List.mem_singleton.mp z]
          exact ⟨hlen, hb⟩
      · intro a ha
        rcases List.mem_append.mp ha with z | z
        · exact hn a z
        · rw [List.mem_singleton.mp z]
          exact ⟨lD, lp⟩
    · rintro H3 ⟨hD3, hB3, as, rs, hl, hd, ho, hr2, hn⟩
      have hl : as.length = L.length := by rw [hl, size_tx]
      have hrl : rs.length = L.length := ho.len.symm.trans hl
      refine ⟨_, rfl, _, rfl, by omega, by omega, fun D2 hD4 => ?_⟩
      have D2p := hD3.ne hD4
      have nD2 : H D2 = none := but_free hB3 hD4 D2p
      refine lc_range (lo := 0) (n := n.toNat) (fun i H4 => DiceAt H4 p ∧ But p H3 H4 ∧ ∃ (ts : List Addr) (tb : List (List Int)), ts.length = i ∧ H4 D2 = some (.lst (ts.map V.ref)) ∧ Objs oTup H4 ts tb ∧ ∀ r ∈ tb, r.length = L.length ∧ Bel n r)
        ⟨hD3.new hD4, but_two (But.refl p H3) hD4, [], [], rfl, upd_same, trivial, fun r hr => (nomatch hr)⟩ ?_ ?_
      · rintro i H4 hi ⟨hD4', hB4, ts, tb, hlt, hd2, ho2, hr3⟩
        have hd4 : H4 D = some (.lst (as.map V.ref)) := hB4 _ _ hd Dp
        have ho4 : Objs oLst H4 as rs := ho.to fun a ha r e => hB4 _ _ e (hn a ha).2
        refine ⟨rfl, _, rfl, D, rfl, ⟨_, SqL.of hd4⟩, fun D3 hD3' => ?_⟩
        have hz : (as.zip rs).length < sizeLine := by rw [List.length_zip, sizeLine_eq]; omega
        have eas : as.map V.ref = (as.zip rs).map fun z => V.ref z.1 := by
          rw [show (fun z : Addr × List Int => V.ref z.1) = V.ref ∘ Prod.fst from rfl, ← List.map_map, List.map_fst_zip (Nat.le_of_eq ho.len)]
        refine same_list (l := as.zip rs) (val := fun z => V.ref z.1) (r := fun z => [V.int (z.2.getD i 0)]) hD3' (SqL.of (by rw [← eas]; exact hd4)) hz (fun _ => Nat.le_refl _) (fun z hz H5 acc s5 hacc hlen N hN => ?_) (fun H5 s5 hd5 => ?_)
        · obtain ⟨e1, e2⟩ := hr2 z.2 (List.of_mem_zip hz).2
          have hii : i < z.2.length := by omega
          have at1 : atI (z.2.map V.int) (0 + (i : Int)) = some (.int (z.2.getD i 0)) := by
            rw [Int.zero_add]
            refine atI_nat ?_
            rw [List.getElem?_map, List.getD_eq_getElem?_getD, List.getElem?_eq_getElem hii] <;> rfl
          exact ⟨rfl, _, rfl, _, rfl, z.1, _, _, _, rfl, rfl, SqL.of (s5 _ _ (ho4.at_ z hz)), at1, acc, hacc, hlen, hN _ (same_at s5 hD3') upd_same⟩
        · have e : (as.zip rs).flatMap (fun z => [V.int (z.2.getD i 0)]) = (rs.map fun r => r.getD i 0).map V.int := by
            rw [flat_map, List.map_map]
            conv => rhs; rw [← List.map_snd_zip (l₁ := as) (l₂ := rs) (Nat.le_of_eq ho.len.symm)]
            rw [List.map_map] <;> rfl
          rw [e] at hd5
          refine ⟨D3, _, rfl, .inl ⟨SqL.of hd5, fun t ht => ?_⟩⟩
          have s6 : Same H4 (upd H5 t (.tup ((rs.map fun r => r.getD i 0).map V.int))) := same_two s5 ht
          have hd6 := s6 _ _ hd2
          have D2t : ∀ a ∈ ts, a ≠ D2 := fun a ha z => by
            obtain ⟨r, _, e⟩ := ho2.mem a ha
            rw [z, hd2] at e
            cases e
          have tD2 : t ≠ D2 := fun z => by rw [z] at ht; rw [s5 _ _ hd2] at ht; cases ht
          refine ⟨_, hd6, by rw [List.length_map, sizeLine_eq]; omega, ?_, ?_, ts ++ [t], tb ++ [rs.map fun r => r.getD i 0], by rw [List.length_append, hlt] <;> rfl, by rw [upd_same, List.map_append] <;> rfl, ?_, ?_⟩
          · exact (hD4'.keep fun o e => s6 _ _ e).keep fun o e => by rw [upd_ne (Ne.symm D2p)]; exact e
          · exact but_at (hB4.trans (But.ofSame s6)) hD4
          · refine Objs.snoc (ho2.to fun a ha r e => by rw [upd_ne (D2t a ha)]; exact s6 _ _ e) (by rw [upd_ne tD2, upd_same])
          · intro r hr
            rcases List.mem_append.mp hr with z | z
            · exact hr3 r z
            · rw [List.mem_singleton.mp z]
              refine ⟨by rw [List.length_map, hrl], fun j hj => ?_⟩
              obtain ⟨r', hr', rfl⟩ := List.mem_map.mp hj
              obtain ⟨e1, e2⟩ := hr2 r' hr'
              have hii : i < r'.length := by omega
              rw [List.getD_eq_getElem?_getD, List.getElem?_eq_getElem hii]
              exact e2 _ (List.getElem_mem hii)
      · rintro H4 ⟨hD4', hB4, ts, tb, hlt, hd2, ho2, hr3⟩
        exact k D2 tb H4 nD2 D2p hD4' (hB3.trans hB4) ⟨ts, hd2, ho2⟩ ⟨by rw [← ho2.len, hlt]; omega, hr3⟩
end
end WK
set_option Elab.async false
set_option linter.all false
set_option maxRecDepth 100000
set_option maxHeartbeats 8000000
namespace WK
open PySem L2 PyProof.Rows LCX
open PySem.W (Frag kitOne)
abbrev sMInit : Stmt := inClass (top 51) 0
def plainTys : List String := ["tuple", "list", "str", "NoneType", "int", "bool"]
theorem NT.ty2 {K : Frag} {H : Hp} {v : V} (h : NT H v) : ∃ t, t ∈ plainTys ∧ TyX K H v (.type t) ∧ kitOne K (.type t) (.type "tuple") = some false := by
  rcases h with ⟨x, rfl⟩ | rfl | ⟨i, rfl⟩ | ⟨b, rfl⟩ | ⟨a, xs, rfl, q⟩
  · exact ⟨_, by decide, .base (.str _), kit_ty (by decide +kernel)⟩
  · exact ⟨_, by decide, .base .non, kit_ty (by decide +kernel)⟩
  · exact ⟨_, by decide, .base (.int _), kit_ty (by decide +kernel)⟩
  · exact ⟨_, by decide, .base (.bl _), kit_ty (by decide +kernel)⟩
  · exact ⟨_, by decide, .base (.lst q), kit_ty (by decide +kernel)⟩
/-- the class Machine at C, the class Made at cD, the error at cM -/
structure TMc (K : Frag) (mg : Str → Option Value) (C cD cM : Addr) : Prop where
  cl : Cls K C
  nT : NoAttr K C "_table"
  nL : NoAttr K C "_letters"
  nE : NoAttr K C "_ends"
  gC : mg "Machine" = some (.ref C)
  gD : mg "Made" = some (.ref cD)
  iD : ∀ t ∈ plainTys, kitOne K (.type t) (.ref cD) = some false
  gM : mg "InvalidMachine" = some (.ref cM)
  xM : PySem.W.excIn K cM [.type "ValueError", .type "Exception", .type "BaseException", .type "object"] "ValueError.__new__" = true
  kM : PySem.W.keepIn K (.ref cM) = true
  bM : PySem.W.subIn K (.ref cM) (.type "BaseException") = some true
  tM : PySem.W.typeIn K (.ref cM) = some (.type "type")
  most : ∃ t, mg "MAX_STATES" = some (.int 4 t)
/-- its fields -/
def mfl (lt tb en : V) : List (Str × V) := [("_table", tb), ("_letters", lt), ("_ends", en)]
/-- what is handed in: letters (none: no text), a table (none: no tuple), ends (none: no tuple) -/
def LetV (v : V) : Option Str → Prop
  | some x => v = .str x ∧ x.length ≤ 1000
  | none => v = .non
def TabV (K : Frag) (H : Hp) (v : V) : Option (List (Option (List V))) → Prop
  | some rs => ∃ a xs, v = .ref a ∧ SqT K H a xs ∧ xs.length ≤ 100 ∧ Rows K H xs rs
  | none => NT H v
def letO : Option Str → Bool
  | some x => letB x
  | none => false
def tabO (wd : Int) : Option (List (Option (List V))) → Bool
  | some rs => tabB rs wd 4
  | none => false
def ascO (m : Int) : Option (List V) → Bool
  | some xs => ascV xs m
  | none => false
def lenO {α : Type} : Option (List α) → Int
  | some l => l.length
  | none => 0
def lenX : Option Str → Int
  | some x => x.length
  | none => 0
def madeB (lt : Option Str) (tb : Option (List (Option (List V)))) (en : Option (List V)) : Bool := letO lt && tabO (lenX lt) tb && ascO (lenO tb) en
def spMInit (K : Frag) (C cM : Addr) : Sp := fun vs H Q E => ∃ p dx l t e lt tb en, vs = [.ref p, l, t, e] ∧ H p = some (.ins C dx []) ∧ LetV l lt ∧ TabV K H t tb ∧ RowV K H e en ∧
  ((madeB lt tb en = true ∧ ∀ H', H' p = some (.ins C dx (mfl l t e)) → (∀ b o, H b = some o → b ≠ p → H' b = some o) → Q .non H') ∨ (madeB lt tb en = false ∧ ∀ H', (∀ b o, H b = some o → b ≠ p → H' b = some o) → E (.ref cM) none H'))
theorem put2 (l t : V) : putF "_letters" l (putF "_table" t []) = ([("_table", t), ("_letters", l)] : List (Str × V)) := by
  show (if ("_table" : Str) = "_letters" then [(("_table" : Str), l)] else (("_table" : Str), t) :: putF "_letters" l []) = ([("_table", t), ("_letters", l)] : List (Str × V))
  rw [if_neg (by decide +kernel)]
  all_goals rfl
theorem put3 (l t e : V) : putF "_ends" e ([("_table", t), ("_letters", l)] : List (Str × V)) = mfl l t e := by
  show (if ("_table" : Str) = "_ends" then [(("_table" : Str), e), ("_letters", l)] else (("_table" : Str), t) :: (if ("_letters" : Str) = "_ends" then [(("_letters" : Str), e)] else (("_letters" : Str), l) :: putF "_ends" e [])) = mfl l t e
  rw [if_neg (by decide +kernel), if_neg (by decide +kernel)]
  all_goals rfl
theorem made_s (x : Str) (tb : Option (List (Option (List V)))) (en : Option (List V)) : madeB (some x) tb en = (letB x && tabO x.length tb && ascO (lenO tb) en) := rfl
theorem made_t (x : Str) (rs : List (Option (List V))) (en : Option (List V)) : madeB (some x) (some rs) en = (letB x && tabB rs x.length 4 && ascO rs.length en) := rfl
theorem sq_ins {K : Frag} {H : Hp} {a p C dx : Addr} {xs : List V} {fs : List (Str × V)} {o : HO} (h : SqT K H a xs) (hp : H p = some (.ins C dx fs)) : SqT K (upd H p o) a xs := by
  rcases h with h | h
  · rcases h with h | ⟨ob, h⟩
    · exact .inl (.inl (by rw [upd_ne (ne_of h hp (fun z => nomatch z))]; exact h))
    · exact .inl (.inr ⟨ob, by rw [upd_ne (ne_of h hp (fun z => nomatch z))]; exact h⟩)
  · exact .inr h
theorem NT.ins {H : Hp} {v : V} {p C dx : Addr} {fs : List (Str × V)} {o : HO} (h : NT H v) (hp : H p = some (.ins C dx fs)) : NT (upd H p o) v := by
  rcases h with h | h | h | h | ⟨a, xs, h, q⟩
  · exact .inl h
  · exact .inr (.inl h)
  · exact .inr (.inr (.inl h))
  · exact .inr (.inr (.inr (.inl h)))
  · exact .inr (.inr (.inr (.inr ⟨a, xs, h, by rw [upd_ne (ne_of q hp (fun z => nomatch z))]; exact q⟩)))
theorem RowV.ins {K : Frag} {H : Hp} {v : V} {r : Option (List V)} {p C dx : Addr} {fs : List (Str × V)} {o : HO} (h : RowV K H v r) (hp : H p = some (.ins C dx fs)) : RowV K (upd H p o) v r := by
  cases r with
  | none => exact NT.ins h hp
  | some xs =>
    obtain ⟨a, e, t, l, q⟩ := h
    exact ⟨a, e, sq_ins t hp, l, q⟩
section
variable {P : Program} {w : World} {K : PySem.W.Frag} {mg : Str → Option Value} {base : Heap} {C cD cM fL fT fA : Addr} {dL dT dA : FuncData}
theorem scMI : FnScope ["self", "letters", "table", "ends"] ["self", "letters", "table", "ends"] (defScope sMInit) := ⟨rfl, rfl, rfl, by decide +kernel, rfl, by decide +kernel, by decide +kernel⟩
theorem ok_minit {f : Addr} {oc kV dc pm ct cd dV : Value} {an od : Option Addr} {sl : Array (Option Value)} (lk : K.lookup f = some ⟨oc, od, .func (PySem.W.fnOf "__init__" "Machine.__init__" (defArgs sMInit) (defBody sMInit) (defScope sMInit) dV kV dc pm an cd ct), sl⟩) (hcd : PySem.W.codeIn K cd "Machine.__init__" = true)
    (T : TN mg) (M : TMc K mg C cD cM) (AL : Fn K mg "is_letters" sIsLet ["value"] fL dL) (GL : FnOk P w K mg base CX0 2 fL dL ["value"] (spIsLet K)) (AT : Fn K mg "is_table" sIsTab ["value", "width", "most"] fT dT) (GT : FnOk P w K mg base CX0 4 fT dT ["value", "width", "most"] (spTab K))
    (AA : Fn K mg "is_ascending" sIsAsc ["value", "many"] fA dA) (GA : FnOk P w K mg base CX0 3 fA dA ["value", "many"] (spIsAsc K)) :
    FnOk P w K mg base (L2.CX P w) 5 f (PySem.W.fnOf "__init__" "Machine.__init__" (defArgs sMInit) (defBody sMInit) (defScope sMInit) dV kV dc pm an cd ct) ["self", "letters", "table", "ends"] (spMInit K C cM) := by
  obtain ⟨tm, most⟩ := M.most
  refine fn_of lk hcd scMI (fun vs H Q E h => ?_) (fun A outer s H vs Q E hr h => ?_)
  · obtain ⟨p, dx, l, t, e, _, _, _, rfl, _⟩ := h
    rfl
  · obtain ⟨p, dx, l, t, e, lt, tb, en, rfl, hp, hl, ht, he, q⟩ := h
    have hr3 : Room 3 _ := hr.mono (by decide)
    have hr2 : Room 2 _ := hr.mono (by decide)
    refine ⟨_, pss_cons (ps_if (pt_not (pt_val (pe_call GL hr2 rfl AL.g AL.F.kp AL.b .nil pass0 (pa_cons (pv 1) pa_nil)))) (pss_one (ps_raise rfl (takes_of rfl rfl rfl rfl) (pmk_own PySem.F.excBase_ValueError M.xM M.gM M.kM (raises_own M.bM M.tM) rfl))) pss_nil)
      (pss_cons (ps_if (pt_val (pe_callB call_isi (by rfl) T.isi (by decide +kernel) (pa_cons (pv 2) (pa_cons (pe_glob rfl M.gD (show RelV (.ref cD) (.ref cD) from rfl)) pa_nil)))) (pss_one (ps_fld (pv 0) (pe_fld (pv 2) rfl) rfl))
        (pss_one (ps_if (pt_val (pe_call GT hr rfl AT.g AT.F.kp AT.b .nil pass0 (pa_cons (pv 2) (pa_cons (pe_callB call_len_str (by rfl) T.len PySem.boot_len (pa_cons (pv 1) pa_nil)) (pa_cons (pe_glob rfl most (show RelV (.int 4) (.int 4 tm) from ⟨tm, rfl⟩)) pa_nil)))))
          (pss_one (ps_fld (pv 0) (pv 2) rfl)) (pss_one (ps_raise rfl (takes_of rfl rfl rfl rfl) (pmk_own PySem.F.excBase_ValueError M.xM M.gM M.kM (raises_own M.bM M.tM) rfl))))))
      (pss_cons (ps_if (pt_not (pt_val (pe_call GA hr3 rfl AA.g AA.F.kp AA.b .nil pass0 (pa_cons (pv 3) (pa_cons (pe_callB call_len_seq (by rfl) T.len PySem.boot_len (pa_cons (pe_fld (pv 0) rfl) pa_nil)) pa_nil))))) (pss_one (ps_raise rfl (takes_of rfl rfl rfl rfl) (pmk_own PySem.F.excBase_ValueError M.xM M.gM M.kM (raises_own M.bM M.tM) rfl))) pss_nil)
      (pss_cons (ps_fld (pv 0) (pv 1) rfl) (pss_one (ps_fld (pv 0) (pv 3) rfl))))), ?_⟩
    have qT : madeB lt tb en = true → ∀ H', H' p = some (.ins C dx (mfl l t e)) → (∀ b o, H b = some o → b ≠ p → H' b = some o) → Q .non H' := fun h => q.elim (·.2) fun z => absurd (h.symm.trans z.1) (fun y => nomatch y)
    have qF : madeB lt tb en = false → ∀ H', (∀ b o, H b = some o → b ≠ p → H' b = some o) → E (.ref cM) none H' := fun h => q.elim (fun z => absurd (z.1.symm.trans h) (fun y => nomatch y)) (·.2)
    clear q
    cases lt with
    | none =>
      obtain rfl : l = .non := hl
      exact ⟨_, rfl, _, rfl, .inr ⟨⟨"NoneType", .base .non, kit_ty (by decide +kernel)⟩, _, rfl, qF rfl _ fun b o z _ => z⟩⟩
    | some x =>
      obtain ⟨rfl, hx⟩ := hl
      refine ⟨_, rfl, _, rfl, .inl ⟨x, rfl, hx, fun H1 s1 => ⟨_, rfl, ?_⟩⟩⟩
      cases e1 : letB x with
      | false => exact qF (by rw [made_s, e1] <;> rfl) _ fun b o z _ => s1 _ _ z
      | true =>
        have hz : x.length ≤ sizeLine := by rw [sizeLine_eq]; omega
        cases tb with
        | none =>
          obtain ⟨ty, ht1, ht2, ht3⟩ := NT.ty2 (K := K) (NT.ext (show NT H t from ht) s1)
          refine ⟨_, rfl, _, _, _, _, false, rfl, .own cD, ht2, M.iD ty ht1, false, rfl, ?_⟩
          refine ⟨_, rfl, _, rfl, _, rfl, hz, t, _, _, rfl, .inr ⟨NT.ext (show NT H t from ht) s1, _, rfl, ?_⟩⟩
          exact qF (by rw [made_s, show tabO x.length none = false from rfl, Bool.and_false] <;> rfl) _ fun b o z _ => s1 _ _ z
        | some rs =>
          obtain ⟨a, xs, rfl, hT, hxl, hR⟩ := ht
          refine ⟨_, rfl, _, _, _, _, false, rfl, .own cD, tyT (seqT s1 hT), M.iD _ (by decide), false, rfl, ?_⟩
          refine ⟨_, rfl, _, rfl, _, rfl, hz, .ref a, _, _, rfl, .inl ⟨a, xs, rs, rfl, seqT s1 hT, hxl, hR.ext s1, fun H2 s2 => ⟨_, rfl, ?_⟩⟩⟩
          have s02 : Same H H2 := s1.trans s2
          cases e2 : tabB rs x.length 4 with
          | false => exact qF (by rw [made_t, e2, Bool.and_false] <;> rfl) _ fun b o z _ => s02 _ _ z
          | true =>
            have hp2 : H2 p = some (.ins C dx []) := s02 _ _ hp
            refine ⟨_, rfl, _, rfl, p, C, dx, [], rfl, hp2, M.cl, M.nT, (by decide), ?_⟩
            refine ⟨_, rfl, _, rfl, p, C, dx, _, _, rfl, upd_same, M.cl, M.nT, rfl, a, xs, rfl, .inr (sq_ins (seqT s02 hT) hp2), ?_⟩
            have hN : ∀ H3, Same (upd H2 p (.ins C dx (putF "_table" (V.ref a) []))) H3 → ∀ b o, H b = some o → b ≠ p → H3 b = some o := fun H3 s3 b o z n => s3 _ _ (by rw [upd_ne n]; exact s02 _ _ z)
            have he2 : RowV K (upd H2 p (.ins C dx (putF "_table" (V.ref a) []))) e en := (RowV.ext he s02).ins hp2
            have hlen : xs.length = rs.length := hR.len
            have hp3 : (upd H2 p (.ins C dx (putF "_table" (V.ref a) []))) p = some (.ins C dx (putF "_table" (V.ref a) [])) := upd_same
            cases en with
            | none => exact ⟨e, _, rfl, .inr ⟨he2, _, rfl, qF (by rw [made_t, show ascO rs.length none = false from rfl, Bool.and_false]) _ (hN _ (Same.refl _))⟩⟩
            | some ys =>
              obtain ⟨b, rfl, hE, hyl, hyn⟩ := he2
              refine ⟨_, _, rfl, .inl ⟨b, ys, rfl, hE, hyl, hyn, fun H3 s3 => ⟨_, rfl, ?_⟩⟩⟩
              rw [hlen]
              cases e3 : ascV ys (rs.length : Int) with
              | false => exact qF (by rw [made_t, show ascO rs.length (some ys) = ascV ys rs.length from rfl, e3, Bool.and_false]) _ (hN _ s3)
              | true =>
                refine ⟨_, rfl, _, rfl, p, C, dx, _, rfl, s3 _ _ hp3, M.cl, M.nL, (by show 1 < 1000; decide), ?_⟩
                refine ⟨_, rfl, _, rfl, p, C, dx, _, rfl, upd_same, M.cl, M.nE, (by rw [put2]; show 2 < 1000; decide), ?_⟩
                refine qT (by rw [made_t, show ascO rs.length (some ys) = ascV ys rs.length from rfl, e1, e2, e3] <;> rfl) _ (by rw [upd_same, put2, put3]) fun c o z n => ?_
                rw [upd_ne n, upd_ne n]
                exact hN _ s3 c o z n
end
end WK
set_option Elab.async false
set_option linter.all false
set_option maxRecDepth 100000
set_option maxHeartbeats 8000000
namespace WK
open PySem L2 PyProof.Rows LCX K1
open TX (sg sigs)
open PySem.W (Frag kitOne)
abbrev kL : Key := Sum.inr "letters"
abbrev kTb : Key := Sum.inr "table"
abbrev kE : Key := Sum.inr "ends"
/-- a plain machine's dict -/
def pkv (L : W) (lt le : Addr) : List (Key × V) := [(kL, .str (tx L)), (kTb, .ref lt), (kE, .ref le)]
/-- ascending numbers from 0 to n -/
def Asc (n : Int) (es : List Int) : Prop := Bel n es ∧ es.Pairwise (· < ·)
structure PlainM (H : Hp) (m : Addr) (L : W) (tb : List (List Int)) (es : List Int) : Prop where
  ex : ∃ lt le, H m = some (.dK (pkv L lt le)) ∧ PTab H lt tb ∧ H le = some (.lst (es.map V.int))
structure MacOk (L : W) (tb : List (List Int)) (es : List Int) (n : Int) : Prop where
  tab : TabOk tb L.length n
  asc : Asc n es
  one : 1 ≤ n
/-- a plain machine's lists are not at p -/
def OffP (H : Hp) (m p : Addr) (L : W) : Prop := ∀ lt l, H m = some (.dK (pkv L lt l)) → lt ≠ p ∧ l ≠ p
theorem pkv_inj {L : W} {a b c d : Addr} (h : pkv L a b = pkv L c d) : a = c ∧ b = d := by
  injection h with _ h
  injection h with h1 h
  injection h with h2 _
  injection h1 with _ h1
  injection h2 with _ h2
  injection h1 with h1
  injection h2 with h2
  exact ⟨h1, h2⟩
def spLMac : Sp := fun vs H Q _ => ∃ (p : Addr) (L : W) (n : Int), vs = [.ref p, .str (tx L), .int n] ∧ DiceAt H p ∧ L ≠ [] ∧ L.length ≤ 26 ∧ 1 ≤ n ∧ n ≤ 50 ∧
  ∀ (m : Addr) (tb : List (List Int)) (es : List Int) (z : Int) (H' : Hp), H m = none → m ≠ p → DiceAt H' p → But p H H' → PlainM H' m L tb es → OffP H' m p L → MacOk L tb es z → z ≤ n → Q (.ref m) H'
abbrev NMa : List Str := ["_law_dice_here", "_law_letters", "_law_states", "_law_size", "_law_table_here", "_law_ends", "_law_state"]
theorem PTab.same {H H' : Hp} {l : Addr} {tb : List (List Int)} (h : PTab H l tb) (s : Same H H') : PTab H' l tb := by
  obtain ⟨as, h1, h2⟩ := h
  exact ⟨as, s _ _ h1, h2.to fun a _ r e => s _ _ e⟩
theorem merge3 (a b c : V) : mergeK [] ([(kL, a), (kTb, b), (kE, c)] : List (Key × V)) = [(kL, a), (kTb, b), (kE, c)] := by
  have h1 : decide ((kL : Key) = kTb) = false := by decide +kernel
  have h2 : decide ((kL : Key) = kE) = false := by decide +kernel
  have h3 : decide ((kTb : Key) = kE) = false := by decide +kernel
  show putK (putK (putK [] kL a) kTb b) kE c = _
  have e1 : putK ([] : List (Key × V)) kL a = [(kL, a)] := rfl
  have e2 : putK [(kL, a)] kTb b = [(kL, a), (kTb, b)] := by
    unfold putK
    rw [List.any_cons, h1]
    rfl
  have e3 : putK [(kL, a), (kTb, b)] kE c = [(kL, a), (kTb, b), (kE, c)] := by
    unfold putK
    rw [List.any_cons, List.any_cons, h2, h3]
    rfl
  rw [e1, e2, e3]
section
variable {P : Program} {w : World} {K : PySem.W.Frag} {mg : Str → Option Value} {base : Heap} {fR fO fA fT : Addr} {dR dO dA dT : FuncData}
theorem scMa : FnScope NMa ["_law_dice_here", "_law_letters", "_law_states"] (defScope sLMac) := ⟨rfl, rfl, rfl, by decide +kernel, rfl, by decide +kernel, by decide +kernel⟩
theorem ok_lmac {f : Addr} {fd : FuncData} (F : Fun K "_law_machine" "_law_machine" sLMac f fd) (T : TN mg) (AR : Fn K mg "_law_roll" sRoll ["_law_dice_here", "_law_total"] fR dR) (AT : Fn K mg "_law_table" sLTab ["_law_dice_here", "_law_letters", "_law_size", "_law_sorts"] fT dT)
    (GT : FnOk P w K mg base CX0 3 fT dT ["_law_dice_here", "_law_letters", "_law_size", "_law_sorts"] spLTab) : FnOk P w K mg base CX0 4 f fd ["_law_dice_here", "_law_letters", "_law_states"] spLMac := by
  have GR : FnOk P w K mg base CX0 1 fR dR ["_law_dice_here", "_law_total"] spRoll := ok_roll AR.F T.dice
  refine F.ok scMa (fun vs H Q E h => ?_) (fun cdv A outer s H vs Q E hr h => ?_)
  · obtain ⟨p, L, n, rfl, _⟩ := h
    rfl
  · obtain ⟨p, L, n, rfl, hD, hL, hL2, h1, h50, k⟩ := h
    have hr1 : Room 1 _ := hr.mono (by decide)
    refine ⟨_, pss_cons (ps_set (i := 3) scMa.nd rfl (Or.inl rfl) (pe_op op_add pe_int (pe_call GR hr1 rfl AR.g AR.F.kp AR.b .nil pass0 (pa_cons (pv 0) (pa_cons (pv 2) pa_nil)))))
      (pss_cons (ps_set (i := 4) scMa.nd rfl (Or.inl rfl) (pe_call GT hr rfl AT.g AT.F.kp AT.b .nil pass0 (pa_cons (pv 0) (pa_cons (pv 1) (pa_cons (pv 3) (pa_cons (pe_lst (pa_cons pe_int (pa_cons pe_int (pa_cons pe_int (pa_cons pe_int (pa_cons pe_int (pa_cons pe_int (pa_cons pe_int (pa_cons pe_int pa_nil))))))))) pa_nil))))))
      (pss_cons (ps_setLc (i := 5) (own := [("_law_state", 6)]) (g := gName 6) (tt := tTest (tOp rEq (tCall spRoll [] E0 (tCons (tVar 0) (tCons (tC (.int 2)) tNil))) (tC (.int 0)))) rfl scMa.nd rfl rfl (sw_true rfl rfl rfl (by decide +kernel)) (pi_range1 rfl T.rng (pa_cons (pv 3) pa_nil))
        (blkOk_by (own := [("_law_state", 6)]) (N := NMa) (sc := defScope sLMac) (by decide +kernel)) (fun _ _ _ _ _ => pg_name (i := 6) scMa.nd rfl (Or.inl rfl))
        (fun _ _ _ _ _ => pts_one (pt_cmpR op_eq (pe_call GR hr1 rfl AR.g AR.F.kp AR.b .nil pass0 (pa_cons (pv 0) (pa_cons pe_int pa_nil))) pe_int (nomark _))) (fun _ _ _ _ _ => pv 6))
      (pss_one (ps_ret (pe_disp (pps_cons pe_str (pv 1) (pps_cons pe_str (pv 4) (pps_cons pe_str (pv 5) pps_nil))) (by rfl) (by rfl) (fun z => by cases z) (by decide)))))), ?_⟩
    refine ⟨_, rfl, _, rfl, p, _, rfl, hD, by omega, by omega, fun r H1 r0 r1 hD1 hB1 => ⟨_, _, rfl, rfl, ?_⟩⟩
    refine ⟨_, rfl, _, rfl, _, rfl, by decide, fun q hq => ?_⟩
    refine ⟨p, q, L, 1 + r, [0, 1, 2, 3, 3, 4, 5, 6], rfl, hD1.new hq, hL, hL2, by omega, by omega, hD1.ne hq, upd_same, by decide, by decide, fun lt tb H3 hl lp hD3 hB3 ht tok => ?_⟩
    refine ⟨_, rfl, _, rfl, by omega, by omega, fun D hD4 => ?_⟩
    have Dp := hD3.ne hD4
    refine lc_range (lo := 0) (n := (1 + r).toNat) (fun i H4 => DiceAt H4 p ∧ But p H3 H4 ∧ ∃ es : List Int, es.length ≤ i ∧ H4 D = some (.lst (es.map V.int)) ∧ Asc i es) ⟨hD3.new hD4, but_two (But.refl p H3) hD4, [], Nat.le_refl _, upd_same, fun e he => (nomatch he), List.Pairwise.nil⟩ ?_ ?_
    · rintro i H4 hi ⟨hD4', hB4, es, hl4, hd, ha⟩
      refine ⟨rfl, _, rfl, p, _, rfl, hD4', by decide, by decide, fun c H5 c0 c1 hD5 hB5 => ⟨rfl, _, rfl, ?_⟩⟩
      have hd5 := hB5 _ _ hd Dp
      refine ite2 (fun _ => ?_) (fun _ => ?_)
      · refine ⟨_, rfl, _, hd5, by rw [List.length_map, sizeLine_eq]; omega, hD5.keep fun o e => by rw [upd_ne (Ne.symm Dp)]; exact e, but_at (hB4.trans hB5) hD4, es ++ [0 + (i : Int)], by rw [List.length_append, List.length_singleton]; omega, by rw [upd_same, List.map_append] <;> rfl, fun e he => ?_, ?_⟩
        · rcases List.mem_append.mp he with z | z
          · have := ha.1 e z
            omega
          · rw [List.mem_singleton.mp z]
            omega
        · refine List.pairwise_append.mpr ⟨ha.2, List.pairwise_singleton _ _, fun x hx y hy => ?_⟩
          rw [List.mem_singleton.mp hy]
          have := ha.1 x hx
          omega
      · exact ⟨hD5, hB4.trans hB5, es, by omega, hd5, fun e he => by have := ha.1 e he; omega, ha.2⟩
    · rintro H4 ⟨hD4', hB4, es, hl4, hd, ha⟩
      refine fun m hm => ⟨_, rfl, _, rfl, _, rfl, upd_same, pkv L lt D, rfl, (by show 3 ≤ 15; decide), ?_⟩
      have Dm : D ≠ m := ne_of_none hd hm
      have ht4 : PTab H4 lt tb := ht.but lp hD3 hB4
      have hBm : But p H (upd (upd H4 m (.dK [])) m (.dK (mergeK [] (pkv L lt D)))) := by
        rw [upd_upd]
        exact but_two (((hB1.trans (but_two (But.refl _ _) hq)).trans hB3).trans hB4) hm
      have nm : H m = none := but_free (((hB1.trans (but_two (But.refl _ _) hq)).trans hB3).trans hB4) hm (hD4'.ne hm)
      refine k m tb es (1 + r) _ nm (hD4'.ne hm) (by rw [upd_upd]; exact hD4'.new hm) hBm ⟨lt, D, ?_, ?_, ?_⟩ (fun a b e => ?_) ⟨tok, ⟨fun e he => by have := ha.1 e he; omega, ha.2⟩, by omega⟩ (by omega)
      · rw [upd_same, pkv, merge3]
      · rw [upd_upd]
        exact ht4.same (same_upd hm)
      · rw [upd_upd, upd_ne Dm]
        exact hd
      · rw [upd_same, pkv, merge3] at e
        injection e with e
        injection e with e
        obtain ⟨rfl, rfl⟩ := pkv_inj (L := L) e
        exact ⟨lp, Dp⟩
end
end WK
set_option Elab.async false
set_option linter.all false
set_option maxRecDepth 100000
set_option maxHeartbeats 8000000
namespace WK
open PySem L2 PyProof.Rows LCX K1
open TX (sg sigs)
open PySem.W (Frag kitOne)
abbrev sMade : Stmt := top 94
theorem no_pass {P : Program} {w : World} {X : Cx} : Passes (L2.CX P w) X (fun _ _ _ => False) := fun _ _ _ _ _ _ _ hc => by
  obtain ⟨a, B, H', cls, d, z1, fl, z2, ub, z3, z4, z5, z6⟩ := hc
  exact z6.elim
theorem numB_in {i m : Int} (h : 0 ≤ i ∧ i < m) : numB (.int i) 0 (m - 1) = true := by
  show (decide (0 ≤ i) && decide (i ≤ m - 1)) = true
  rw [decide_eq_true h.1, decide_eq_true (by omega)]
  rfl
theorem nums_in {is : List Int} {m : Int} (h : Bel m is) : ((is.map V.int).map fun x => numB x 0 (m - 1)).all id = true := by
  rw [List.map_map, List.all_eq_true]
  intro b hb
  obtain ⟨i, hi, rfl⟩ := List.mem_map.mp hb
  exact numB_in (h i hi)
theorem int_of (is : List Int) : (is.map V.int).map intOf = is := by
  rw [List.map_map]
  exact (List.map_congr_left fun _ _ => rfl).trans (List.map_id is)
theorem ascV_in {es : List Int} {n : Int} (h : Asc n es) : ascV (es.map V.int) n = true := by
  unfold ascV
  rw [nums_in h.1, int_of]
  exact decide_eq_true h.2
theorem rowB_in {r : List Int} {wd : Nat} {m : Int} (h1 : r.length = wd) (h2 : Bel m r) : rowB (r.map V.int) wd m = true := by
  unfold rowB
  rw [nums_in h2, decide_eq_true (by rw [List.length_map, h1])]
  rfl
abbrev rsOf (tb : List (List Int)) : List (Option (List V)) := tb.map fun r => some (r.map V.int)
theorem tabB_in {tb : List (List Int)} {wd : Nat} {n most : Int} (h : TabOk tb wd n) (h1 : 1 ≤ n) (h2 : n ≤ most) : tabB (rsOf tb) wd most = true := by
  have e : ((rsOf tb).length : Int) = n := by rw [List.length_map]; exact h.len
  unfold tabB
  rw [e, decide_eq_true h1, decide_eq_true h2]
  show ((rsOf tb).map _).all id = true
  rw [List.map_map, List.all_eq_true]
  intro b hb
  obtain ⟨r, hr, rfl⟩ := List.mem_map.mp hb
  exact rowB_in (h.row r hr).1 (h.row r hr).2
theorem rows_of {K : Frag} {H : Hp} {wd : Nat} (hw : wd ≤ 100) : ∀ {ts : List Addr} {tb : List (List Int)}, Objs oTup H ts tb → (∀ r ∈ tb, r.length = wd) → Rows K H (ts.map V.ref) (rsOf tb)
  | [], [], _, _ => trivial
  | t :: ts, r :: tb, h, k => ⟨⟨t, rfl, SqT.of h.1, by rw [List.length_map, k r (.head _)]; exact hw, fun x hx => by obtain ⟨i, _, rfl⟩ := List.mem_map.mp hx; exact .inl ⟨i, rfl⟩⟩, rows_of hw h.2 fun r hr => k r (.tail _ hr)⟩
  | [], _ :: _, h, _ => h.elim
  | _ :: _, [], h, _ => h.elim
theorem asc_from {n : Int} : ∀ (es : List Int) (a : Int), a ≤ n → (∀ i ∈ es, a ≤ i ∧ i < n) → es.Pairwise (· < ·) → (es.length : Int) ≤ n - a
  | [], _, h, _, _ => by
    show (0 : Int) ≤ _
    omega
  | e :: es, a, _, hb, hp => by
    obtain ⟨h1, h2⟩ := List.pairwise_cons.mp hp
    have he := hb e (.head _)
    have := asc_from es (e + 1) (by omega) (fun i hi => ⟨h1 i hi, (hb i (.tail _ hi)).2⟩) h2
    rw [List.length_cons]
    omega
theorem asc_len {n : Int} {es : List Int} (h : Asc n es) (h0 : 0 ≤ n) : (es.length : Int) ≤ n := by
  have := asc_from es 0 h0 h.1 h.2
  omega
/-- a machine stands at o -/
structure MacAt (C : Addr) (H : Hp) (o : Addr) (L : W) (tb : List (List Int)) (es : List Int) : Prop where
  ex : ∃ (dx t e : Addr) (ts : List Addr), H o = some (.ins C dx (mfl (.str (tx L)) (.ref t) (.ref e))) ∧ H t = some (.tup (ts.map V.ref)) ∧ Objs oTup H ts tb ∧ H e = some (.tup (es.map V.int))
theorem MacAt.same {C : Addr} {H H' : Hp} {o : Addr} {L : W} {tb : List (List Int)} {es : List Int} (h : MacAt C H o L tb es) (s : Same H H') : MacAt C H' o L tb es := by
  obtain ⟨dx, t, e, ts, h1, h2, h3, h4⟩ := h.ex
  exact ⟨dx, t, e, ts, s _ _ h1, s _ _ h2, h3.to fun a _ r z => s _ _ z, s _ _ h4⟩
def spMade (C : Addr) : Sp := fun vs H Q _ => ∃ (m : Addr) (L : W) (tb : List (List Int)) (es : List Int) (n : Int), vs = [.ref m] ∧ PlainM H m L tb es ∧ MacOk L tb es n ∧ n ≤ 4 ∧ Let L ∧ ∀ (o : Addr) (H' : Hp), H o = none → Same H H' → MacAt C H' o L tb es → Q (.ref o) H'
theorem pkv_L (L : W) (lt le : Addr) : valV (pkv L lt le) kL = some (.str (tx L)) := rfl
theorem val_skip {k1 k : Key} {v : V} {r : List (Key × V)} (h : decide (k1 = k) = false) : valV ((k1, v) :: r) k = valV r k := by
  unfold valV
  rw [List.find?_cons, show decide ((k1, v).1 = k) = false from h]
theorem pkv_T (L : W) (lt le : Addr) : valV (pkv L lt le) kTb = some (.ref lt) := (val_skip (by decide +kernel)).trans rfl
theorem pkv_E (L : W) (lt le : Addr) : valV (pkv L lt le) kE = some (.ref le) := (val_skip (by decide +kernel)).trans ((val_skip (by decide +kernel)).trans rfl)
section
variable {P : Program} {w : World} {K : PySem.W.Frag} {mg : Str → Option Value} {base : Heap} {C cD cM fI : Addr} {dI : FuncData}
theorem scMd : FnScope ["_law_plain"] ["_law_plain"] (defScope sMade) := ⟨rfl, rfl, rfl, by decide +kernel, rfl, by decide +kernel, by decide +kernel⟩
theorem ok_made {f : Addr} {fd : FuncData} (F : Fun K "_law_made_machine" "_law_made_machine" sMade f fd) (T : TN mg) (M : TMc K mg C cD cM) (MI : Mk K C fI) (GI : FnOk P w K mg base (L2.CX P w) 5 fI dI ["self", "letters", "table", "ends"] (spMInit K C cM)) (bI : Binds K dI ["self", "letters", "table", "ends"] []) :
    FnOk P w K mg base CX0 7 f fd ["_law_plain"] (spMade C) := by
  refine F.ok scMd (fun vs H Q E h => ?_) (fun cdv A outer s H vs Q E hr h => ?_)
  · obtain ⟨m, L, tb, es, n, rfl, _⟩ := h
    rfl
  · obtain ⟨m, L, tb, es, n, rfl, hp, ok, h4, hL, k⟩ := h
    have hu := hu_of hr
    refine ⟨_, pss_one (ps_ret (pe_make (E := fun _ _ _ => False) MI GI hr rfl M.gC bI .nil no_pass (pa_cons (pe_dget hu (pv 0) pe_str (fun _ _ => rfl))
      (pa_cons (pe_callTy call_tuple_of (by rfl) T.tuple (by decide +kernel) (pa_cons (pe_dget hu (pv 0) pe_str (fun _ _ => rfl)) pa_nil))
      (pa_cons (pe_callTy call_tuple_of (by rfl) T.tuple (by decide +kernel) (pa_cons (pe_dget hu (pv 0) pe_str (fun _ _ => rfl)) pa_nil)) pa_nil))))), ?_⟩
    obtain ⟨lt, le, h1, ⟨ts, h2, h3⟩, h5⟩ := hp.ex
    have g : ∀ (H' : Hp) (kk : Key) (v : V), Same H H' → valV (pkv L lt le) kk = some v → DGet H' m (kV kk) (some v) := fun H' kk v s e => e ▸ DGet.k (s _ _ h1)
    refine ⟨_, rfl, m, _, rfl, g H kL _ (Same.refl H) (pkv_L L lt le), ?_⟩
    refine ⟨_, rfl, m, _, rfl, g H kTb _ (Same.refl H) (pkv_T L lt le), lt, _, rfl, .inl ⟨SqL.of h2, fun t ht => ?_⟩⟩
    have s1 : Same H (upd H t (.tup (ts.map V.ref))) := same_upd ht
    refine ⟨_, rfl, m, _, rfl, g _ kE _ s1 (pkv_E L lt le), le, _, rfl, .inl ⟨SqL.of (s1 _ _ h5), fun e he => ?_⟩⟩
    have s2 : Same H (upd (upd H t (.tup (ts.map V.ref))) e (.tup (es.map V.int))) := same_two s1 he
    have ht2 : (upd (upd H t (.tup (ts.map V.ref))) e (.tup (es.map V.int))) t = some (.tup (ts.map V.ref)) := same_upd he _ _ upd_same
    have he2 : (upd (upd H t (.tup (ts.map V.ref))) e (.tup (es.map V.int))) e = some (.tup (es.map V.int)) := upd_same
    generalize upd (upd H t (.tup (ts.map V.ref))) e (.tup (es.map V.int)) = H2 at s2 ht2 he2 ⊢
    intro x dx hx hdx ne
    have s3 : Same H2 (upd (upd H2 dx (.own x)) x (.ins C dx [])) := fun b o z => by rw [upd_ne (ne_of_none z hx), upd_ne (ne_of_none z hdx)]; exact z
    have o3 : Objs oTup (upd (upd H2 dx (.own x)) x (.ins C dx [])) ts tb := h3.to fun a _ r z => s3 _ _ (s2 _ _ z)
    have hlen := h3.len
    have htl := ok.tab.len
    refine ⟨x, dx, .str (tx L), .ref t, .ref e, some (tx L), some (rsOf tb), some (es.map V.int), rfl, upd_same, ⟨rfl, by rw [tx_len]; have := hL.few; omega⟩, ⟨t, _, rfl, SqT.of (s3 _ _ ht2), by rw [List.length_map]; omega, rows_of (by have := hL.few; omega) o3 fun r hr => (ok.tab.row r hr).1⟩, ⟨e, rfl, SqT.of (s3 _ _ he2), ?_, ?_⟩, .inl ⟨?_, fun H4 h4' k4 => ⟨rfl, ?_⟩⟩⟩
    · have := asc_len ok.asc (by have := ok.one; omega)
      rw [List.length_map]
      omega
    · intro y hy
      obtain ⟨i, _, rfl⟩ := List.mem_map.mp hy
      exact .inl ⟨i, rfl⟩
    · have e1 : ((rsOf tb).length : Int) = n := by rw [List.length_map]; exact htl
      rw [made_t, letB_let hL, tx_len, tabB_in ok.tab ok.one h4, e1]
      exact ascV_in ok.asc
    · have s4 : Same H2 H4 := fun b o z => k4 b o (s3 _ _ z) (ne_of_none z hx)
      exact k x H4 (s2.free hx) (s2.trans s4) ⟨dx, t, e, ts, h4', s4 _ _ ht2, h3.to fun a _ r z => s4 _ _ (s2 _ _ z), s4 _ _ he2⟩
end
end WK
set_option Elab.async false
set_option linter.all false
set_option maxRecDepth 100000
set_option maxHeartbeats 4000000
namespace DP
open PySem PySem.Spec PyProof.Rows L2
def tDisp1 (tk tv : TE) : TE := fun σ H Q => ∃ emp : HO, (emp = .dK [] ∨ emp = .dT []) ∧ ∀ p, H p = none → tk σ (upd H p emp) fun y H1 => tv σ H1 fun z H2 => ∃ H3, DPut H2 p y z H3 ∧ Q (.ref p) H3
section
variable {X : Cx} {pins : List (Addr × Obj)} {σ : L2.St} {H H' : Hp} {s : Shared} {a : Addr} {y v : V} {u r : Value}
/-- what a display does with a pair -/
theorem d_set {Q : Unit → Shared → Prop} (hu : X.A.units < cLine) (I : Inv X pins σ H s) (g : DPut H a y v H') (ry : RelV y u) (rv : RelV v r) (h : ∀ s', Inv X pins σ H' s' → Q () s') : wpAny (model X.prog X.w) X.A (dictSet a u r) Q X.xe s := by
  rcases g with ⟨kvs, k, e, rfl, l, rfl⟩ | ⟨kvs, k, b, e, rfl, eb, l, rfl⟩
  · obtain ⟨z, hd, vs, rel, dd⟩ := dk_of I.hok e
    have few := length_putK kvs k v
    refine wpAny_dictSet_pairs (hsz := by rw [← rel.length]; exact z) (kV_is ry) dd fun h' dd' hs => h _ ?_
    exact d_write I (by rw [e]; exact True.intro) hs (let ⟨q, _, _, hq, _⟩ := dd'; ⟨q, hq⟩) (dk_new (by omega) hd (rel.put k rv) dd')
  · cases (show u = Value.ref b from ry)
    obtain ⟨z, hd, xs, rel, dd⟩ := dt_of I.hok e
    have few := length_putK kvs k v
    refine wpAny_dictSet_heap (hsz := by rw [← Paired.length rel]; exact z) hu (key_of I.hok eb) dd fun h' ⟨q, es, ep, hq, h2, h3, h4, _, h5⟩ hs => h _ ?_
    refine d_write I (by rw [e]; exact True.intro) hs ⟨q, hq⟩ ⟨by omega, hd, _, (rel.put k eb rv).keeps fun c ys ec => ?_, q, es, ep, hq, h2, h3, h4, h5⟩
    rw [upd_ne (ne_of ec e fun z => nomatch z)]
    exact ec
end
theorem pe_disp1 {X : Cx} {k v : Expr} {tk tv : TE} {pos : Pos} (hu : X.A.units < cLine) (hk : PE X k tk) (hv : PE X v tv) : PE X (.Dict [some k] [v] pos) (tDisp1 tk tv) := by
  refine ⟨fun pins s σ H Q I ⟨emp, kind, told⟩ => ?_⟩
  have new := I.hok.fresh (Nat.le_refl s.heap.objs.size)
  have J : Inv X pins σ (upd H s.heap.objs.size emp) { s with heap := s.heap.push { cls := .type "dict", data := .dict #[] } } := by
    refine I.laid (t' := s.toks) (fun _ _ q => Heap.get?_push_of_some _ q) (Nat.le_refl _) ?_
    rcases kind with rfl | rfl
    · exact dk_empty s.heap I.big
    · exact dt_empty s.heap I.big
  refine wpAny_Dict_any rfl rfl (fun z => by cases z) (by show 1 ≤ 15; decide) (pairTrees_cons_walk ?_)
  refine thn (hk.run pins _ σ _ _ J (told _ new)) fun u s1 ⟨y, H1, I1, ry, q1⟩ => thn (hv.run pins s1 σ H1 _ I1 q1) fun r s2 ⟨z, H2, I2, rz, H3, g, q2⟩ => pairTrees_nil_walk ?_
  show wpAny _ _ (forIn [(u, r)] PUnit.unit _) _ _ s2
  rw [List.forIn_cons]
  refine wpAny_bind (wpAny_bind (d_set hu I2 g ry rz fun s3 I3 => wpAny_pure ?_))
  exact wpAny_pure ⟨.ref s.heap.objs.size, H3, I3, rfl, q2⟩
end DP
set_option Elab.async false
set_option linter.all false
set_option maxRecDepth 100000
set_option maxHeartbeats 8000000
namespace WK
open PySem L2 PyProof.Rows LCX K1 FV DP
open TX (sg sigs)
open PySem.W (Frag kitOne)
abbrev sExpl : Stmt := top 21
section
variable {α : Type} [DecidableEq α]
/-- one letter: the key behind it, and the row so far -/
def exSign (f : α → Nat → α) (key : α) (st : List α × List Int) (c : Nat) : List α × List Int :=
  if f key c ∈ st.1 then (st.1, st.2 ++ [((st.1.idxOf (f key c) : Nat) : Int)]) else (st.1 ++ [f key c], st.2 ++ [((st.1.length : Nat) : Int)])
def exAll (f : α → Nat → α) (L : W) (start : α) : Nat → List α × List (List Int)
  | 0 => ([start], [])
  | j + 1 => match (exAll f L start j).1[j]? with
    | some key => ((L.foldl (exSign f key) ((exAll f L start j).1, [])).1, (exAll f L start j).2 ++ [(L.foldl (exSign f key) ((exAll f L start j).1, [])).2])
    | none => exAll f L start j
theorem exSign_grows (f : α → Nat → α) (key : α) (st : List α × List Int) (c : Nat) : st.1 <+: (exSign f key st c).1 := by
  unfold exSign
  split
  · exact List.prefix_refl _
  · exact List.prefix_append _ _
theorem exFold_grows (f : α → Nat → α) (key : α) : ∀ (l : W) (st : List α × List Int), st.1 <+: (l.foldl (exSign f key) st).1
  | [], _ => List.prefix_refl _
  | c :: l, st => (exSign_grows f key st c).trans (exFold_grows f key l _)
theorem exAll_at {f : α → Nat → α} {L : W} {start : α} {j : Nat} {key : α} (h : (exAll f L start j).1[j]? = some key) :
    exAll f L start (j + 1) = ((L.foldl (exSign f key) ((exAll f L start j).1, [])).1, (exAll f L start j).2 ++ [(L.foldl (exSign f key) ((exAll f L start j).1, [])).2]) := by
  show (match (exAll f L start j).1[j]? with | some key => _ | none => _) = _
  rw [h]
theorem exAll_stop {f : α → Nat → α} {L : W} {start : α} {j : Nat} (h : (exAll f L start j).1.length ≤ j) : ∀ m, exAll f L start (j + m) = exAll f L start j
  | 0 => rfl
  | m + 1 => by
    have ih := exAll_stop h m
    show (match (exAll f L start (j + m)).1[j + m]? with | some key => _ | none => _) = _
    rw [List.getElem?_eq_none (by rw [ih]; omega)]
    exact ih
end
/-- how keys of a kind lie in the heap, and how a dict has their numbers -/
structure Kit (α : Type) [DecidableEq α] where
  is : Hp → V → α → Prop
  keep : ∀ {H H' : Hp} {v : V} {a : α}, is H v a → (∀ b xs, H b = some (.tup xs) → H' b = some (.tup xs)) → is H' v a
  ho : List α → HO
  kind : ∀ l, (∃ kvs, ho l = .dK kvs) ∨ ∃ kvs, ho l = .dT kvs
  emp : ho [] = .dK [] ∨ ho [] = .dT []
  get : ∀ {H : Hp} {D : Addr} {l : List α} {v : V} {a : α}, H D = some (ho l) → is H v a → DGet H D v (if a ∈ l then some (.int ((l.idxOf a : Nat) : Int)) else none)
  put : ∀ {H : Hp} {D : Addr} {l : List α} {v : V} {a : α}, H D = some (ho l) → is H v a → a ∉ l → l.length < sizeLine → DPut H D v (.int ((l.length : Nat) : Int)) (upd H D (ho (l ++ [a])))
section
variable {α : Type} [DecidableEq α] {kit : Kit α} {H H' : Hp}
def Are (kit : Kit α) (H : Hp) : List V → List α → Prop
  | [], [] => True
  | v :: vs, a :: l => kit.is H v a ∧ Are kit H vs l
  | _, _ => False
theorem Are.keep : ∀ {vs : List V} {l : List α}, Are kit H vs l → (∀ b xs, H b = some (.tup xs) → H' b = some (.tup xs)) → Are kit H' vs l
  | [], [], _, _ => trivial
  | _ :: _, _ :: _, h, k => ⟨kit.keep h.1 k, h.2.keep k⟩
  | [], _ :: _, h, _ => h.elim
  | _ :: _, [], h, _ => h.elim
theorem Are.len : ∀ {vs : List V} {l : List α}, Are kit H vs l → vs.length = l.length
  | [], [], _ => rfl
  | _ :: _, _ :: _, h => congrArg Nat.succ h.2.len
  | [], _ :: _, h => h.elim
  | _ :: _, [], h => h.elim
theorem Are.snoc {v : V} {a : α} : ∀ {vs : List V} {l : List α}, Are kit H vs l → kit.is H v a → Are kit H (vs ++ [v]) (l ++ [a])
  | [], [], _, k => ⟨k, trivial⟩
  | _ :: _, _ :: _, h, k => ⟨h.1, h.2.snoc k⟩
  | [], _ :: _, h, _ => h.elim
  | _ :: _, [], h, _ => h.elim
theorem Are.get {a : α} : ∀ {vs : List V} {l : List α} {i : Nat}, Are kit H vs l → l[i]? = some a → ∃ v, vs[i]? = some v ∧ kit.is H v a
  | v :: _, b :: _, 0, h, e => ⟨v, rfl, by cases e; exact h.1⟩
  | _ :: _, _ :: _, i + 1, h, e => h.2.get (i := i) e
  | [], [], _, _, e => by cases e
  | [], _ :: _, _, h, _ => h.elim
  | _ :: _, [], _, h, _ => h.elim
theorem Kit.not_tup (kit : Kit α) (l : List α) (xs : List V) : kit.ho l ≠ .tup xs := fun e => by
  rcases kit.kind l with ⟨k, z⟩ | ⟨k, z⟩ <;> rw [z] at e <;> cases e
end
/-- what is known of functions stays -/
def KeepsExt (H H' : Hp) : Prop := ∀ b φ, H b = some (.ext φ) → H' b = some (.ext φ)
def KeepsTup (H H' : Hp) : Prop := ∀ b xs, H b = some (.tup xs) → H' b = some (.tup xs)
theorem Same.ext' {H H' : Hp} (s : Same H H') : KeepsExt H H' := fun b _ e => s b _ e
theorem Same.tup' {H H' : Hp} (s : Same H H') : KeepsTup H H' := fun b _ e => s b _ e
theorem KeepsTup.trans {H H1 H2 : Hp} (a : KeepsTup H H1) (b : KeepsTup H1 H2) : KeepsTup H H2 := fun d xs e => b d xs (a d xs e)
theorem KeepsExt.trans {H H1 H2 : Hp} (a : KeepsExt H H1) (b : KeepsExt H1 H2) : KeepsExt H H2 := fun d xs e => b d xs (a d xs e)
theorem tup_upd {H : Hp} {a : Addr} {u o : HO} (h : H a = some u) (n : ∀ xs, u ≠ .tup xs) : KeepsTup H (upd H a o) := fun b xs e => by
  rw [upd_ne fun z => n xs (Option.some.inj (h.symm.trans (by rw [← z]; exact e)))]
  exact e
theorem objs_tup {H H' : Hp} {as : List Addr} {rs : List (List Int)} (o : Objs oTup H as rs) (k : KeepsTup H H') : Objs oTup H' as rs := o.to fun a _ r e => k a _ e
theorem idx_end {α : Type} [DecidableEq α] {a : α} : ∀ {l : List α}, a ∉ l → (l ++ [a]).idxOf a = l.length := by
  intro l h
  rw [List.idxOf_append, if_neg h, List.idxOf_cons_self]
  omega
theorem iteF' {c : Bool} {a b : Prop} (h : c = false) (k : b) : (if c = true then a else b) := by
  rw [h]
  exact k
abbrev NEx : List Str := ["signs", "start", "step", "most", "keys", "numbers", "rows", "key", "row", "sign", "after"]
section
variable {α : Type} [DecidableEq α]
def spExpl (P : Program) (w : World) (K : Frag) (mg : Str → Option Value) (base : Heap) (kit : Kit α) (kf : Nat) : Sp := fun vs H Q _ =>
  ∃ (L : W) (v0 : V) (start : α) (fa : Addr) (G : Hp → Prop) (sp : Sp) (f : α → Nat → α) (ok : α → Prop) (B : Nat), vs = [.str (tx L), v0, .ref fa, .int 400] ∧ L.length ≤ 3 ∧ kit.is H v0 start ∧ CallV P w K mg base CX0 kf fa G sp ∧ G H ∧
    (∀ H H', KeepsExt H H' → G H → G H') ∧ ok start ∧ (∀ a c, ok a → c ∈ L → ok (f a c)) ∧
    (∀ (H : Hp) (v : V) (a : α) (c : Nat) (Q : VK), G H → kit.is H v a → ok a → c ∈ L → (∀ v' H', Same H H' → kit.is H' v' (f a c) → Q v' H') → sp [v, .str (sg c)] H Q E0) ∧ (∀ j, (exAll f L start j).1.length ≤ B) ∧ B ≤ 400 ∧
    ∀ (t k r : Addr) (ts : List Addr) (vs : List V) (H' : Hp), Same H H' → H' t = some (.tup [.ref k, .ref r]) → H' k = some (.lst vs) → Are kit H' vs (exAll f L start B).1 → H' r = some (.tup (ts.map V.ref)) → Objs oTup H' ts (exAll f L start B).2 → Q (.ref t) H'
end
section
variable {α : Type} [DecidableEq α] {P : Program} {w : World} {K : PySem.W.Frag} {mg : Str → Option Value} {base : Heap} {kit : Kit α} {kf : Nat}
theorem scEx : FnScope NEx ["signs", "start", "step", "most"] (defScope sExpl) := ⟨rfl, rfl, rfl, by decide +kernel, rfl, by decide +kernel, by decide +kernel⟩
theorem ok_expl {f : Addr} {oc kV dc pm ct cd dV : Value} {an od : Option Addr} {sl : Array (Option Value)} (lk : K.lookup f = some ⟨oc, od, .func (PySem.W.fnOf "explored" "explored" (defArgs sExpl) (defBody sExpl) (defScope sExpl) dV kV dc pm an cd ct), sl⟩) (hcd : PySem.W.codeIn K cd "explored" = true) (T : TN mg) : FnOk P w K mg base CX0 (kf + 1) f (PySem.W.fnOf "explored" "explored" (defArgs sExpl) (defBody sExpl) (defScope sExpl) dV kV dc pm an cd ct) ["signs", "start", "step", "most"] (spExpl P w K mg base kit kf) := by
  refine fn_ofN lk hcd scEx (fun vs H Q E h => ?_) (fun A outer s H vs Q E hr h => ?_)
  · obtain ⟨L, v0, start, fa, G, sp, fn, ok, B, rfl, _⟩ := h
    rfl
  · obtain ⟨L, v0, start, fa, G, sp, fn, ok, B, rfl, hL, is0, cv, g0, gk, ok0, okc, hstep, hB, hB4, q⟩ := h
    have hub := hu_of hr
    refine ⟨_, pss_cons (ps_set (i := 4) scEx.nd rfl (Or.inl rfl) (pe_lst (pa_cons (pv 1) pa_nil)))
      (pss_cons (ps_set (i := 5) scEx.nd rfl (Or.inl rfl) (pe_disp1 (Nat.lt_of_succ_lt hub) (pv 1) pe_int))
      (pss_cons (ps_set (i := 6) scEx.nd rfl (Or.inl rfl) (pe_lst pa_nil))
      (pss_cons (ps_while PassesOwn.never (pt_cmpR op_lt (pe_callB call_len_seq (by rfl) T.len PySem.boot_len (pa_cons (pv 6) pa_nil)) (pe_callB call_len_seq (by rfl) T.len PySem.boot_len (pa_cons (pv 4) pa_nil)) (nomark _))
        (pss_cons (ps_set (i := 7) scEx.nd rfl (Or.inl rfl) (pe_ix ix_list (pv 4) (pe_callB call_len_seq (by rfl) T.len PySem.boot_len (pa_cons (pv 6) pa_nil)) (fun _ _ => rfl)))
        (pss_cons (ps_set (i := 8) scEx.nd rfl (Or.inl rfl) (pe_lst pa_nil))
        (pss_cons (ps_for PassesOwn.never rfl (pi_str (pv 0)) (pg_name (i := 9) scEx.nd rfl (Or.inl rfl))
          (pss_cons (ps_set (i := 10) scEx.nd rfl (Or.inl rfl) (pe_callV (i := 2) (CX := CX0) (E := E0) hr pass0 rfl (.inl rfl) (pa_cons (pv 7) (pa_cons (pv 9) pa_nil))))
          (pss_cons (ps_if (pt_cmp (pc_dnotin hub (pv 10) (pv 5)))
              (pss_cons (ps_if (pt_cmpR op_eq (pe_callB call_len_seq (by rfl) T.len PySem.boot_len (pa_cons (pv 4) pa_nil)) (pv 3) (nomark _)) (pss_one ps_never) pss_nil)
              (pss_cons (ps_dput hub (pv 5) (pv 10) (pe_callB call_len_seq (by rfl) T.len PySem.boot_len (pa_cons (pv 4) pa_nil)) rfl)
              (pss_one (ps_expr (pe_bm PySem.F.plainAttrs_list PySem.F.slot_list_append PySem.F.type_list_append mt_append (pv 4) (pa_cons (pv 10) pa_nil)))))) pss_nil)
          (pss_one (ps_expr (pe_bm PySem.F.plainAttrs_list PySem.F.slot_list_append PySem.F.type_list_append mt_append (pv 8) (pa_cons (pe_dget hub (pv 5) (pv 10) (fun _ _ => rfl)) pa_nil)))))))
        (pss_one (ps_expr (pe_bm PySem.F.plainAttrs_list PySem.F.slot_list_append PySem.F.type_list_append mt_append (pv 6) (pa_cons (pe_callTy call_tuple_of (by rfl) T.tuple (by decide +kernel) (pa_cons (pv 8) pa_nil)) pa_nil))))))))
      (pss_one (ps_ret (pe_tup (pa_cons (pv 4) (pa_cons (pe_callTy call_tuple_of (by rfl) T.tuple (by decide +kernel) (pa_cons (pv 6) pa_nil)) pa_nil)))))))), ?_⟩
    generalize hst : exAll fn L start = st at hB q
    have hz : st 0 = ([start], []) := by rw [← hst] <;> rfl
    have hnx : ∀ (j : Nat) (key : α), (st j).1[j]? = some key → st (j + 1) = ((L.foldl (exSign fn key) ((st j).1, [])).1, (st j).2 ++ [(L.foldl (exSign fn key) ((st j).1, [])).2]) := by
      intro j key e
      have e2 := exAll_at (f := fn) (L := L) (start := start) (j := j) (by rw [hst]; exact e)
      rw [hst] at e2
      exact e2
    have hsp : ∀ (j m : Nat), (st j).1.length ≤ j → st (j + m) = st j := by
      intro j m h
      rw [← hst] at h ⊢
      exact exAll_stop h m
    have hgr : ∀ (j i : Nat) (key : α), (st j).1[j]? = some key → ((L.take i).foldl (exSign fn key) ((st j).1, [])).1.length ≤ B := by
      intro j i key e
      have h2 := hB (j + 1)
      rw [hnx j key e] at h2
      have h3 := exFold_grows fn key (L.drop i) ((L.take i).foldl (exSign fn key) ((st j).1, []))
      rw [← List.foldl_append, List.take_append_drop] at h3
      exact Nat.le_trans h3.length_le h2
    have B1 : 1 ≤ B := by have := hB 0; rw [hz] at this; exact this
    refine ⟨_, rfl, (by show 1 ≤ sizeLine; decide), fun M hM => ?_⟩
    refine ⟨kit.ho [], kit.emp, fun D hD => ⟨_, rfl, _, kit.put (l := []) upd_same (kit.keep is0 (fun b xs e => (same_two (same_upd hM) hD) _ _ e)) List.not_mem_nil (by show 0 < sizeLine; decide), ?_⟩⟩
    rw [upd_upd]
    have nD : H D = none := (same_upd hM).free hD
    have nMD : M ≠ D := fun z => by rw [← z, upd_same] at hD; cases hD
    refine ⟨by show 0 ≤ sizeLine; decide, fun R hR => ?_⟩
    have s0 : Same H (upd (upd (upd H M (.lst [v0])) D (kit.ho [start])) R (.lst [])) := same_two (same_two (same_upd hM) hD) hR
    have nMR : M ≠ R := fun z => by rw [← z, upd_ne nMD, upd_same] at hR; cases hR
    have nDR : D ≠ R := fun z => by rw [← z, upd_same] at hR; cases hR
    have nR : H R = none := (same_two (same_upd hM) hD).free hR
    refine while_by (fun σ H2 => ∃ (j : Nat) (vs : List V) (ts : List Addr) (x7 x8 x9 x10 : Option V), Same H H2 ∧ H2 M = some (.lst vs) ∧ Are kit H2 vs (st j).1 ∧ H2 D = some (kit.ho (st j).1) ∧ H2 R = some (.lst (ts.map V.ref)) ∧ Objs oTup H2 ts (st j).2 ∧ ts.length = j ∧ j ≤ (st j).1.length ∧ (∀ a ∈ (st j).1, ok a) ∧
      σ = [some (.str (tx L)), some v0, some (.ref fa), some (.int 400), some (.ref M), some (.ref D), some (.ref R), x7, x8, x9, x10]) (fun _ H2 => B - (match H2 R with | some (.lst xs) => xs.length | _ => 0)) ?_ ?_ ?_
    · refine ⟨0, [v0], [], none, none, none, none, s0, ?_, ?_, ?_, upd_same, ?_, rfl, Nat.zero_le _, ?_, rfl⟩
      · rw [upd_ne nMR, upd_ne nMD, upd_same]
      · rw [hz]
        exact ⟨kit.keep is0 fun b xs e => s0 _ _ e, trivial⟩
      · rw [upd_ne nDR, upd_same, hz] <;> rfl
      · rw [hz]
        exact trivial
      · rw [hz]
        intro a ha
        rw [List.mem_singleton.mp ha]
        exact ok0
    · rintro σ H2 ⟨j, vs, ts, x7, x8, x9, x10, s2, hm, are, hd, hr2, objs, hts, hle, oks, rfl⟩
      have hvl := are.len
      refine ⟨_, rfl, R, _, rfl, .inl (SqL.of hr2), _, rfl, M, _, rfl, .inl (SqL.of hm), _, _, rfl, rfl, _, rfl, ?_⟩
      rw [List.length_map, hts, hvl]
      refine ite2 (fun hlt => ?_) (fun hge => ?_)
      · have hlt : ((j : Nat) : Int) < (((st j).1.length : Nat) : Int) := of_decide_eq_true hlt
        have hlt : j < (st j).1.length := by omega
        obtain ⟨key, hkey⟩ : ∃ key, (st j).1[j]? = some key := ⟨_, List.getElem?_eq_getElem hlt⟩
        obtain ⟨v, hv, isv⟩ := are.get hkey
        have okk : ok key := oks _ (List.mem_of_getElem? hkey)
        have hstep1 := hnx j key hkey
        have hg := fun i => hgr j i key hkey
        have hlenB := hB j
        refine ⟨_, rfl, _, rfl, R, _, rfl, .inl (SqL.of hr2), M, _, _, _, rfl, rfl, SqL.of hm, by rw [List.length_map, hts]; exact atI_nat hv, ?_⟩
        refine ⟨by show 0 ≤ sizeLine; decide, fun RW hRW => ?_⟩
        have nRW : H RW = none := s2.free hRW
        have nMW : M ≠ RW := fun z => by rw [← z, hm] at hRW; cases hRW
        have nDW : D ≠ RW := fun z => by rw [← z, hd] at hRW; cases hRW
        have nRR : R ≠ RW := fun z => by rw [← z, hr2] at hRW; cases hRW
        generalize hks : (st j).1 = ks at hkey hlenB hg hstep1 hlt hle are hd oks hvl
        generalize hrs : (st j).2 = rs at objs hstep1
        have kt0 : KeepsTup H2 (upd H2 RW (.lst [])) := Same.tup' (same_upd hRW)
        refine ⟨_, rfl, tx L, rfl, ?_⟩
        refine for_it walk_str (fun i σ H3 => ∃ (vs : List V) (x9 x10 : Option V), Same H H3 ∧ H3 M = some (.lst vs) ∧ Are kit H3 vs ((L.take i).foldl (exSign fn key) (ks, [])).1 ∧ H3 D = some (kit.ho ((L.take i).foldl (exSign fn key) (ks, [])).1) ∧ H3 R = some (.lst (ts.map V.ref)) ∧ Objs oTup H3 ts rs ∧ kit.is H3 v key ∧
            H3 RW = some (.lst (((L.take i).foldl (exSign fn key) (ks, [])).2.map V.int)) ∧ ((L.take i).foldl (exSign fn key) (ks, [])).2.length = i ∧ (∀ a ∈ ((L.take i).foldl (exSign fn key) (ks, [])).1, ok a) ∧
            σ = [some (.str (tx L)), some v0, some (.ref fa), some (.int 400), some (.ref M), some (.ref D), some (.ref R), some v, some (.ref RW), x9, x10]) ?_ (fun _ _ _ _ _ => trivial) ?_ ?_
        · refine ⟨vs, x9, x10, s2.trans (same_upd hRW), same_upd hRW _ _ hm, are.keep kt0, same_upd hRW _ _ hd, same_upd hRW _ _ hr2, objs_tup objs kt0, kit.keep isv kt0, upd_same, rfl, oks, rfl⟩
        · rintro i x σ H3 H4 hi ⟨vs, x9, x10, s3, hm3, are3, hd3, hr3, objs3, isv3, hw3, hw3l, oks3, rfl⟩ ⟨rfl, c, hx, rfl⟩
          have hx' : L[i]? = some c := by
            rw [← Array.getElem?_toList, tx_list] at hx
            exact hx
          have hcL : c ∈ L := List.mem_of_getElem? hx'
          have hiL : i < L.length := (List.getElem?_eq_some_iff.mp hx').1
          have hgi1 := hg (i + 1)
          have e1 : (L.take (i + 1)).foldl (exSign fn key) (ks, []) = exSign fn key ((L.take i).foldl (exSign fn key) (ks, [])) c := by
            rw [List.take_add_one, hx', List.foldl_append] <;> rfl
          rw [e1] at hgi1
          rw [e1]
          generalize (L.take i).foldl (exSign fn key) (ks, []) = fo at are3 hd3 hw3 hw3l oks3 hgi1 ⊢
          have gH := gk H H4 (Same.ext' s3) g0
          refine ⟨fa, G, sp, rfl, cv, gH, _, rfl, _, rfl, gH, hstep H4 v key c _ gH isv3 okk hcL fun v' H5 s5 is5 => ?_⟩
          have oka : ok (fn key c) := okc _ _ okk hcL
          replace hm3 := s5 _ _ hm3
          replace are3 := are3.keep (Same.tup' s5)
          replace hd3 := s5 _ _ hd3
          replace hr3 := s5 _ _ hr3
          replace objs3 := objs_tup objs3 (Same.tup' s5)
          replace isv3 := kit.keep isv3 (Same.tup' s5)
          replace hw3 := s5 _ _ hw3
          replace s3 := s3.trans s5
          have vl3 := are3.len
          refine ⟨_, rfl, _, rfl, D, _, rfl, kit.get hd3 is5, _, rfl, ?_⟩
          unfold exSign at hgi1 ⊢
          by_cases hin : fn key c ∈ fo.1
          · rw [if_pos hin] at hgi1 ⊢
            rw [if_pos hin]
            refine iteF ?_
            refine ⟨_, rfl, .inl ⟨rfl, _, SqL.of hw3⟩, _, rfl, _, rfl, D, _, rfl, (if_pos hin) ▸ kit.get hd3 is5, RW, _, _, rfl, rfl, hw3, by rw [List.length_map, hw3l, sizeLine_eq]; omega, ?_⟩
            have kt := tup_upd (o := .lst (fo.2.map V.int ++ [.int ((fo.1.idxOf (fn key c) : Nat) : Int)])) hw3 (fun _ z => nomatch z)
            refine ⟨vs, _, _, same_at s3 nRW, ?_, are3.keep kt, ?_, ?_, objs_tup objs3 kt, kit.keep isv3 kt, ?_, ?_, oks3, rfl⟩
            · rw [upd_ne nMW]
              exact hm3
            · rw [upd_ne nDW]
              exact hd3
            · rw [upd_ne nRR]
              exact hr3
            · rw [upd_same]
              show _ = some (HO.lst ((fo.2 ++ [_]).map V.int))
              rw [List.map_append] <;> rfl
            · show (fo.2 ++ [_]).length = _
              rw [List.length_append, hw3l] <;> rfl
          · rw [if_neg hin] at hgi1 ⊢
            rw [if_neg hin]
            have hlen1 : fo.1.length + 1 ≤ B := by rw [List.length_append] at hgi1; exact hgi1
            refine iteT ?_
            refine ⟨_, rfl, M, _, rfl, .inl (SqL.of hm3), _, rfl, rfl, _, rfl, iteF' ?_ ?_⟩
            · rw [vl3]
              refine decide_eq_false fun z => ?_
              have := V.int.inj z
              omega
            refine ⟨_, rfl, M, _, rfl, .inl (SqL.of hm3), _, rfl, _, rfl, D, _, rfl, by rw [vl3]; exact kit.put hd3 is5 hin (by rw [sizeLine_eq]; omega), ?_⟩
            have k1 := tup_upd (o := kit.ho (fo.1 ++ [fn key c])) hd3 (kit.not_tup _)
            have m1 : upd H5 D (kit.ho (fo.1 ++ [fn key c])) M = some (.lst vs) := by rw [upd_ne nMD]; exact hm3
            have d1 : upd H5 D (kit.ho (fo.1 ++ [fn key c])) D = some (kit.ho (fo.1 ++ [fn key c])) := upd_same
            have r1 : upd H5 D (kit.ho (fo.1 ++ [fn key c])) R = some (.lst (ts.map V.ref)) := by rw [upd_ne (Ne.symm nDR)]; exact hr3
            have w1 : upd H5 D (kit.ho (fo.1 ++ [fn key c])) RW = some (.lst (fo.2.map V.int)) := by rw [upd_ne (Ne.symm nDW)]; exact hw3
            have s1 : Same H (upd H5 D (kit.ho (fo.1 ++ [fn key c]))) := same_at s3 nD
            have a1 := are3.keep k1
            have o1 := objs_tup objs3 k1
            have v1 := kit.keep isv3 k1
            have is1 := kit.keep is5 k1
            generalize upd H5 D (kit.ho (fo.1 ++ [fn key c])) = H6 at m1 d1 r1 w1 s1 a1 o1 v1 is1 ⊢
            refine ⟨_, rfl, .inl ⟨rfl, _, SqL.of m1⟩, _, rfl, M, _, _, rfl, rfl, m1, by rw [vl3, sizeLine_eq]; omega, ?_⟩
            have k2 := tup_upd (o := .lst (vs ++ [v'])) m1 (fun _ z => nomatch z)
            have m2 : upd H6 M (.lst (vs ++ [v'])) M = some (.lst (vs ++ [v'])) := upd_same
            have d2 : upd H6 M (.lst (vs ++ [v'])) D = some (kit.ho (fo.1 ++ [fn key c])) := by rw [upd_ne (Ne.symm nMD)]; exact d1
            have r2 : upd H6 M (.lst (vs ++ [v'])) R = some (.lst (ts.map V.ref)) := by rw [upd_ne (Ne.symm nMR)]; exact r1
            have w2 : upd H6 M (.lst (vs ++ [v'])) RW = some (.lst (fo.2.map V.int)) := by rw [upd_ne (Ne.symm nMW)]; exact w1
            have s2' : Same H (upd H6 M (.lst (vs ++ [v']))) := same_at s1 hM
            have a2 := (a1.snoc is1).keep k2
            have o2 := objs_tup o1 k2
            have v2 := kit.keep v1 k2
            have is2 := kit.keep is1 k2
            generalize upd H6 M (.lst (vs ++ [v'])) = H7 at m2 d2 r2 w2 s2' a2 o2 v2 is2 ⊢
            have gg := kit.get d2 is2
            rw [if_pos (List.mem_append_right _ (List.mem_singleton.mpr rfl)), idx_end hin] at gg
            refine ⟨_, rfl, .inl ⟨rfl, _, SqL.of w2⟩, _, rfl, _, rfl, D, _, rfl, gg, RW, _, _, rfl, rfl, w2, by rw [List.length_map, hw3l, sizeLine_eq]; omega, ?_⟩
            have k3 := tup_upd (o := .lst (fo.2.map V.int ++ [.int ((fo.1.length : Nat) : Int)])) w2 (fun _ z => nomatch z)
            refine ⟨vs ++ [v'], _, _, same_at s2' nRW, ?_, a2.keep k3, ?_, ?_, objs_tup o2 k3, kit.keep v2 k3, ?_, ?_, ?_, rfl⟩
            · rw [upd_ne nMW]
              exact m2
            · rw [upd_ne nDW]
              exact d2
            · rw [upd_ne nRR]
              exact r2
            · rw [upd_same]
              show _ = some (HO.lst ((fo.2 ++ [_]).map V.int))
              rw [List.map_append] <;> rfl
            · show (fo.2 ++ [_]).length = _
              rw [List.length_append, hw3l] <;> rfl
            · intro a ha
              rcases List.mem_append.mp ha with h | h
              · exact oks3 a h
              · rw [List.mem_singleton.mp h]
                exact oka
        · rintro σ H3 ⟨vs, x9, x10, s3, hm3, are3, hd3, hr3, objs3, isv3, hw3, hw3l, oks3, rfl⟩
          rw [size_tx, List.take_length] at are3 hd3 hw3 hw3l oks3
          have fB := hB (j + 1)
          rw [hstep1] at fB
          generalize hfo : L.foldl (exSign fn key) (ks, []) = fo at are3 hd3 hw3 hw3l oks3 fB hstep1
          have grows : ks.length ≤ fo.1.length := by rw [← hfo]; exact (exFold_grows fn key L (ks, [])).length_le
          refine ⟨_, rfl, .inl ⟨rfl, _, SqL.of hr3⟩, _, rfl, RW, _, rfl, .inl ⟨SqL.of hw3, fun t ht => ?_⟩⟩
          have s4 := same_upd (o := .tup (fo.2.map V.int)) ht
          have nt : R ≠ t := fun z => by rw [← z, hr3] at ht; cases ht
          refine ⟨R, _, _, rfl, rfl, s4 _ _ hr3, by rw [List.length_map, hts, sizeLine_eq]; omega, ?_⟩
          have hr4 := s4 _ _ hr3
          have hm4 := s4 _ _ hm3
          have hd4 := s4 _ _ hd3
          have ho4 := objs_tup objs3 (Same.tup' s4)
          have ha4 := are3.keep (Same.tup' s4)
          have ht4 : upd H3 t (.tup (fo.2.map V.int)) t = some (oTup fo.2) := upd_same
          have s5 := s3.trans s4
          generalize upd H3 t (.tup (fo.2.map V.int)) = H4 at hr4 hm4 hd4 ho4 ha4 ht4 s5 ⊢
          have k3 := tup_upd (o := .lst (ts.map V.ref ++ [.ref t])) hr4 (fun _ z => nomatch z)
          refine ⟨⟨j + 1, vs, ts ++ [t], _, _, _, _, same_at s5 nR, ?_, ?_, ?_, ?_, ?_, ?_, ?_, ?_, rfl⟩, ?_⟩
          · rw [upd_ne nMR]
            exact hm4
          · rw [hstep1]
            exact ha4.keep k3
          · rw [upd_ne nDR, hstep1]
            exact hd4
          · rw [upd_same, List.map_append] <;> rfl
          · rw [hstep1]
            exact objs_tup (ho4.snoc ht4) k3
          · rw [List.length_append, hts] <;> rfl
          · rw [hstep1]
            show j + 1 ≤ fo.1.length
            omega
          · rw [hstep1]
            exact oks3
          · show B - (match (upd _ R _) R with | some (.lst xs) => xs.length | _ => 0) < B - (match H2 R with | some (.lst xs) => xs.length | _ => 0)
            rw [upd_same, hr2]
            show _ - (ts.map V.ref ++ [_]).length < _ - (ts.map V.ref).length
            rw [List.length_append, List.length_map, hts]
            show _ - (j + 1) < _
            omega
      · have hge : ¬ (((j : Nat) : Int) < (((st j).1.length : Nat) : Int)) := fun z => hge (decide_eq_true z)
        have e1 : (st j).1.length = j := by omega
        have e2 : st B = st j := by
          have h3 := hB j
          have h4 := hsp j (B - j) (by omega)
          rw [show j + (B - j) = B by omega] at h4
          exact h4
        refine ⟨_, rfl, _, rfl, R, _, rfl, .inl ⟨SqL.of hr2, fun r hr => ?_⟩⟩
        refine ⟨by show 2 ≤ sizeLine; decide, fun t ht => ?_⟩
        have s3 := same_upd (o := .tup (ts.map V.ref)) hr
        have s4 := same_upd (o := .tup [.ref M, .ref r]) ht
        refine q t M r ts vs _ (s2.trans (s3.trans s4)) upd_same (s4 _ _ (s3 _ _ hm)) ?_ (s4 _ _ upd_same) ?_
        · rw [e2]
          exact are.keep (Same.tup' (s3.trans s4))
        · rw [e2]
          exact objs_tup objs (Same.tup' (s3.trans s4))
    · exact fun σ H Q Q' hm ⟨v, hv, M', ys, e, hs, w', hw, M2, ys2, e2, hs2, i, j, a, b, k, hk, q⟩ => ⟨v, hv, M', ys, e, hs, w', hw, M2, ys2, e2, hs2, i, j, a, b, k, hk, hm _ _ q⟩
end
end WK
set_option Elab.async false
set_option linter.all false
set_option maxRecDepth 100000
set_option maxHeartbeats 4000000
namespace WK
open PySem L2 PyProof.Rows LCX K1 FV DP
open TX (sg sigs)
section
variable {α κ : Type} [DecidableEq α] [DecidableEq κ] (e : α → κ)
/-- a dict's pairs: each key with its number, from i on -/
def numK (i : Nat) : List α → List (κ × V)
  | [] => []
  | a :: l => (e a, .int ((i : Nat) : Int)) :: numK (i + 1) l
theorem numK_len : ∀ (l : List α) (i : Nat), (numK e i l).length = l.length
  | [], _ => rfl
  | _ :: l, i => congrArg Nat.succ (numK_len l (i + 1))
theorem numK_snoc (a : α) : ∀ (l : List α) (i : Nat), numK e i (l ++ [a]) = numK e i l ++ [(e a, .int (((i + l.length : Nat) : Nat) : Int))]
  | [], _ => rfl
  | b :: l, i => by
    show (e b, _) :: numK e (i + 1) (l ++ [a]) = (e b, _) :: (numK e (i + 1) l ++ _)
    rw [numK_snoc a l (i + 1), List.length_cons, show i + 1 + l.length = i + (l.length + 1) by omega]
theorem numK_val (inj : ∀ a b, e a = e b → a = b) (a : α) : ∀ (l : List α) (i : Nat), valV (numK e i l) (e a) = if a ∈ l then some (.int (((i + l.idxOf a : Nat) : Nat) : Int)) else none
  | [], _ => rfl
  | b :: l, i => by
    show valV ((e b, V.int ((i : Nat) : Int)) :: numK e (i + 1) l) (e a) = _
    by_cases hb : b = a
    · rw [valV_pos (congrArg e hb), if_pos (hb ▸ List.mem_cons_self), hb, List.idxOf_cons_self] <;> rfl
    · rw [valV_neg fun z => hb (inj _ _ z), numK_val inj a l (i + 1)]
      have hm : (a ∈ b :: l) ↔ a ∈ l := ⟨fun z => (List.mem_cons.mp z).resolve_left fun w => hb w.symm, List.mem_cons_of_mem _⟩
      by_cases h : a ∈ l
      · rw [if_pos h, if_pos (hm.mpr h), List.idxOf_cons, show (b == a) = false from beq_eq_false_iff_ne.mpr hb, show i + 1 + l.idxOf a = i + (l.idxOf a + 1) by omega] <;> rfl
      · rw [if_neg h, if_neg fun z => h (hm.mp z)]
theorem numK_put (inj : ∀ a b, e a = e b → a = b) {a : α} {l : List α} (h : a ∉ l) : putK (numK e 0 l) (e a) (.int ((l.length : Nat) : Int)) = numK e 0 (l ++ [a]) := by
  unfold putK
  rw [valV_any, numK_val e inj, if_neg h, numK_snoc, Nat.zero_add]
  exact if_neg fun z => nomatch z
end
theorem map_inj {α β : Type} {f : α → β} (inj : ∀ a b, f a = f b → a = b) : ∀ (l m : List α), l.map f = m.map f → l = m
  | [], [], _ => rfl
  | a :: l, b :: m, h => by
    obtain ⟨h1, h2⟩ := List.cons.inj h
    rw [inj a b h1, map_inj inj l m h2]
  | [], _ :: _, h => nomatch h
  | _ :: _, [], h => nomatch h
/-- tuples of keys -/
def kitL {α : Type} [DecidableEq α] (e : α → Key) (inj : ∀ a b, e a = e b → a = b) : Kit (List α) where
  is := fun H v a => ∃ b, v = .ref b ∧ H b = some (.tup ((a.map e).map kV))
  keep := fun ⟨b, hv, hb⟩ k => ⟨b, hv, k _ _ hb⟩
  ho := fun l => .dT (numK (fun a : List α => a.map e) 0 l)
  kind := fun l => .inr ⟨_, rfl⟩
  emp := .inr rfl
  get := fun {H D l v a} hd hv => by
    obtain ⟨b, rfl, hb⟩ := hv
    have h := DGet.t (k := a.map e) hd hb
    rw [numK_val (fun a : List α => a.map e) (fun a b z => map_inj inj a b z), Nat.zero_add] at h
    exact h
  put := fun {H D l v a} hd hv hn hl => by
    obtain ⟨b, rfl, hb⟩ := hv
    have h := DPut.t (k := a.map e) (v := .int ((l.length : Nat) : Int)) hd hb (by rw [numK_len]; exact hl)
    rw [numK_put (fun a : List α => a.map e) (fun a b z => map_inj inj a b z) hn] at h
    exact h
/-- tuples of numbers -/
def kitI : Kit (List Int) := kitL (fun i : Int => (Sum.inl i : Key)) fun _ _ h => Sum.inl.inj h
theorem kitI_is {H : Hp} {b : Addr} {a : List Int} : kitI.is H (.ref b) a ↔ H b = some (.tup (a.map V.int)) := by
  show (∃ c, V.ref b = .ref c ∧ H c = some (.tup ((a.map _).map kV))) ↔ _
  rw [List.map_map]
  exact ⟨fun ⟨c, h, k⟩ => by cases h; exact k, fun h => ⟨b, rfl, h⟩⟩
end WK
set_option Elab.async false
set_option linter.all false
set_option maxRecDepth 100000
set_option maxHeartbeats 8000000
namespace WK
open PySem L2 PyProof.Rows LCX K1 FV DP
open TX (sg sigs)
open PySem.W (Frag kitOne)
abbrev sMadeI : Stmt := inClass (top 14) 0
abbrev sBoxI : Stmt := inClass (top 63) 0
abbrev sGrown : Stmt := top 65
/-- the class Box at C, the class Made at cD -/
structure TBx (K : Frag) (mg : Str → Option Value) (C cD : Addr) : Prop where
  cl : Cls K C
  nT : NoAttr K C "_table"
  nL : NoAttr K C "_letters"
  clD : Cls K cD
  nR : NoAttr K cD "rows"
  gC : mg "Box" = some (.ref C)
  gD : mg "Made" = some (.ref cD)
  tyC : ∀ {H : Hp} {a dx : Addr} {fs : List (Str × V)}, H a = some (.ins C dx fs) → TyOf K H (.ref a) (.ref C)
  tyD : ∀ {H : Hp} {a dx : Addr} {fs : List (Str × V)}, H a = some (.ins cD dx fs) → TyOf K H (.ref a) (.ref cD)
  most : ∃ t, mg "MAX_MADE" = some (.int 400 t)
def bfl (lt tb : V) : List (Str × V) := [("_table", tb), ("_letters", lt)]
/-- a class is called, which a name of the running frame holds -/
def tMakeV (i : Nat) (C : Addr) (sp : Sp) (dvs : List V) (E : XK) (t : TA) : TE := fun σ H Q => σ[i]? = some (some (.ref C)) ∧ tMake C sp dvs E t σ H Q
theorem pe_makeV {X : Cx} {CX : CXT} {k i : Nat} {f C : Addr} {fd : FuncData} {ps : List Str} {ds : List Value} {dvs : List V} {sp : Sp} {E : XK} {x : Str} {p pos : Pos} {e : Expr} {es : List Expr} {t : TA}
    (M : Mk X.K C f) (F : FnOk X.prog X.w X.K X.mg X.base CX k f fd ps sp) (hr : Room (k + 1) X.A) (hN : X.N[i]? = some x) (hv : Vis X.env.scope x) (hb : Binds X.K fd ps ds) (hd : Vals dvs ds) (hx : Passes CX X E) (ha : PA X (e :: es) t)
    (hdb : (x == ("__debug__" : Str)) = false := by decide) (hcd : (x == ("__classdict__" : Str)) = false := by decide) (he : starEach (e :: es) X.env = (false, eval e X.env) :: starEach es X.env := by rfl) (hpl : (backTo pos (starEach es X.env)).any (·.1) = false := by rfl) :
    PE X (.Call (.Name x p) (e :: es) [] pos) (tMakeV i C sp dvs E t) := by
  refine ⟨fun pins s σ H Q I ⟨hs, h⟩ => ?_⟩
  refine wpAny_Call_Name_kw (thn ((pe_var (pos := p) hN hv hdb hcd).run pins s σ H (fun v H1 => v = .ref C ∧ H1 = H) I ⟨_, hs, rfl, rfl⟩) fun u s1 ⟨v, H1, I1, r1, ev, eH⟩ => ?_)
  subst ev
  subst eH
  cases (show u = Value.ref C from r1)
  refine PySem.W.callWith_K (h₀ := X.base) I1.ok.mod.kin M.kp (thn (ha.run pos pins s1 σ _ _ I1 h) fun us s2 ⟨vs, H2, I2, r, q⟩ => ⟨I2.kIn, ?_⟩) he hpl
  exact run_make M F hr hb hd hx I2 r q
/-- rows as the package made them stand at g -/
def RowsAt (H : Hp) (r : Addr) (tb : List (List Int)) : Prop := ∃ ts : List Addr, H r = some (.tup (ts.map V.ref)) ∧ Objs oTup H ts tb
theorem RowsAt.keep {H H' : Hp} {r : Addr} {tb : List (List Int)} (h : RowsAt H r tb) (k : KeepsTup H H') : RowsAt H' r tb := by
  obtain ⟨ts, h1, h2⟩ := h
  exact ⟨ts, k _ _ h1, objs_tup h2 k⟩
def MadeAt (cD : Addr) (H : Hp) (g : Addr) (tb : List (List Int)) : Prop := ∃ dx r : Addr, H g = some (.ins cD dx [("rows", .ref r)]) ∧ RowsAt H r tb
theorem MadeAt.same {cD : Addr} {H H' : Hp} {g : Addr} {tb : List (List Int)} (h : MadeAt cD H g tb) (s : Same H H') : MadeAt cD H' g tb := by
  obtain ⟨dx, r, h1, h2⟩ := h
  exact ⟨dx, r, s _ _ h1, h2.keep (Same.tup' s)⟩
/-- a box stands at o -/
def BoxAt (C : Addr) (H : Hp) (o : Addr) (L : W) (tb : List (List Int)) : Prop := ∃ dx r : Addr, H o = some (.ins C dx (bfl (.str (tx L)) (.ref r))) ∧ RowsAt H r tb
theorem BoxAt.same {C : Addr} {H H' : Hp} {o : Addr} {L : W} {tb : List (List Int)} (h : BoxAt C H o L tb) (s : Same H H') : BoxAt C H' o L tb := by
  obtain ⟨dx, r, h1, h2⟩ := h
  exact ⟨dx, r, s _ _ h1, h2.keep (Same.tup' s)⟩
def spMadeI (cD : Addr) : Sp := fun vs H Q _ => ∃ p dx r, vs = [.ref p, r] ∧ H p = some (.ins cD dx []) ∧ Q .non (upd H p (.ins cD dx [("rows", r)]))
def spBoxI (C cD : Addr) : Sp := fun vs H Q _ => ∃ (p dx : Addr) (L : W) (g : Addr) (tb : List (List Int)), vs = [.ref p, .str (tx L), .ref g] ∧ Let L ∧ H p = some (.ins C dx []) ∧ g ≠ p ∧ MadeAt cD H g tb ∧
  ∀ (r : Addr) (H' : Hp), H' p = some (.ins C dx (bfl (.str (tx L)) (.ref r))) → (∀ b o, H b = some o → b ≠ p → H' b = some o) → RowsAt H' r tb → Q .non H'
/-- a step that may be explored from a start -/
def Steps {α : Type} [DecidableEq α] (P : Program) (w : World) (K : Frag) (mg : Str → Option Value) (base : Heap) (kit : Kit α) (kf : Nat) (H : Hp) (L : W) (v0 : V) (fa : Addr) (start : α) (f : α → Nat → α) (B : Nat) : Prop :=
  ∃ (G : Hp → Prop) (sp : Sp) (ok : α → Prop), kit.is H v0 start ∧ CallV P w K mg base CX0 kf fa G sp ∧ G H ∧
    (∀ H H', KeepsExt H H' → G H → G H') ∧ ok start ∧ (∀ a c, ok a → c ∈ L → ok (f a c)) ∧
    (∀ (H : Hp) (v : V) (a : α) (c : Nat) (Q : VK), G H → kit.is H v a → ok a → c ∈ L → (∀ v' H', Same H H' → kit.is H' v' (f a c) → Q v' H') → sp [v, .str (sg c)] H Q E0) ∧ (∀ j, (exAll f L start j).1.length ≤ B) ∧ B ≤ 400
def spGrown (P : Program) (w : World) (K : Frag) (mg : Str → Option Value) (base : Heap) {α : Type} [DecidableEq α] (kit : Kit α) (kf : Nat) (cD : Addr) : Sp := fun vs H Q _ =>
  ∃ (L : W) (v0 : V) (start : α) (fa : Addr) (f : α → Nat → α) (B : Nat), vs = [.str (tx L), v0, .ref fa] ∧ L.length ≤ 3 ∧ Steps P w K mg base kit kf H L v0 fa start f B ∧ ∀ g H', H g = none → Same H H' → MadeAt cD H' g (exAll f L start B).2 → Q (.ref g) H'
section
variable {P : Program} {w : World} {K : PySem.W.Frag} {mg : Str → Option Value} {base : Heap} {C cD fL fI fE : Addr} {dL dI dE : FuncData}
theorem scDI : FnScope ["self", "rows"] ["self", "rows"] (defScope sMadeI) := ⟨rfl, rfl, rfl, by decide +kernel, rfl, by decide +kernel, by decide +kernel⟩
theorem ok_madei {f : Addr} {oc kV dc pm ct cd dV : Value} {an od : Option Addr} {sl : Array (Option Value)} (lk : K.lookup f = some ⟨oc, od, .func (PySem.W.fnOf "__init__" "Made.__init__" (defArgs sMadeI) (defBody sMadeI) (defScope sMadeI) dV kV dc pm an cd ct), sl⟩) (hcd : PySem.W.codeIn K cd "Made.__init__" = true) (M : TBx K mg C cD) :
    FnOk P w K mg base CX0 1 f (PySem.W.fnOf "__init__" "Made.__init__" (defArgs sMadeI) (defBody sMadeI) (defScope sMadeI) dV kV dc pm an cd ct) ["self", "rows"] (spMadeI cD) := by
  refine fn_of lk hcd scDI (fun vs H Q E h => ?_) (fun A outer s H vs Q E hr h => ?_)
  · obtain ⟨p, dx, r, rfl, _⟩ := h
    rfl
  · obtain ⟨p, dx, r, rfl, hp, q⟩ := h
    refine ⟨_, pss_one (ps_fld (pv 0) (pv 1) rfl), ?_⟩
    exact ⟨_, rfl, _, rfl, p, cD, dx, [], rfl, hp, M.clD, M.nR, by show 0 < 1000; decide, q⟩
theorem scBI : FnScope ["self", "letters", "table"] ["self", "letters", "table"] (defScope sBoxI) := ⟨rfl, rfl, rfl, by decide +kernel, rfl, by decide +kernel, by decide +kernel⟩
theorem ok_boxi {f : Addr} {oc kV dc pm ct cd dV : Value} {an od : Option Addr} {sl : Array (Option Value)} (lk : K.lookup f = some ⟨oc, od, .func (PySem.W.fnOf "__init__" "Box.__init__" (defArgs sBoxI) (defBody sBoxI) (defScope sBoxI) dV kV dc pm an cd ct), sl⟩) (hcd : PySem.W.codeIn K cd "Box.__init__" = true)
    (T : TN mg) (M : TBx K mg C cD) (AL : Fn K mg "is_letters" sIsLet ["value"] fL dL) (GL : FnOk P w K mg base CX0 2 fL dL ["value"] (spIsLet K)) :
    FnOk P w K mg base CX0 3 f (PySem.W.fnOf "__init__" "Box.__init__" (defArgs sBoxI) (defBody sBoxI) (defScope sBoxI) dV kV dc pm an cd ct) ["self", "letters", "table"] (spBoxI C cD) := by
  refine fn_of lk hcd scBI (fun vs H Q E h => ?_) (fun A outer s H vs Q E hr h => ?_)
  · obtain ⟨p, dx, L, g, tb, rfl, _⟩ := h
    rfl
  · obtain ⟨p, dx, L, g, tb, rfl, hL, hp, hgp, ⟨gx, r, hg, rows⟩, q⟩ := h
    refine ⟨_, pss_cons (ps_if (pt_not (pt_val (pe_call GL hr rfl AL.g AL.F.kp AL.b .nil pass0 (pa_cons (pv 1) pa_nil)))) (pss_one ps_never) pss_nil)
      (pss_cons (ps_if (pt_val (pe_callB call_isi (by rfl) T.isi (by decide +kernel) (pa_cons (pv 2) (pa_cons (pe_glob rfl M.gD (show RelV (.ref cD) (.ref cD) from rfl)) pa_nil)))) (pss_one (ps_fld (pv 0) (pe_fld (pv 2) rfl) rfl)) (pss_one ps_never))
      (pss_one (ps_fld (pv 0) (pv 1) rfl))), ?_⟩
    refine ⟨_, rfl, _, rfl, .inl ⟨tx L, rfl, by rw [tx_len]; have := hL.few; omega, fun H1 s1 => ⟨_, rfl, ?_⟩⟩⟩
    rw [letB_let hL]
    refine ⟨_, rfl, _, _, _, _, true, rfl, .own cD, .base (M.tyD (s1 _ _ hg)), if_pos (beq_self_eq_true _), true, rfl, ?_⟩
    have hp1 := s1 _ _ hp
    refine ⟨_, rfl, g, cD, gx, _, _, rfl, s1 _ _ hg, M.clD, M.nR, rfl, _, rfl, p, C, dx, [], rfl, hp1, M.cl, M.nT, by show 0 < 1000; decide, ?_⟩
    refine ⟨_, rfl, _, rfl, p, C, dx, _, rfl, upd_same, M.cl, M.nL, by show 1 < 1000; decide, ?_⟩
    have kt : KeepsTup H _ := (Same.tup' s1).trans ((tup_upd (o := .ins C dx (putF "_table" (V.ref r) [])) hp1 fun _ z => nomatch z).trans (tup_upd (o := .ins C dx (putF "_letters" (V.str (tx L)) (putF "_table" (V.ref r) []))) upd_same fun _ z => nomatch z))
    refine q r _ ?_ (fun b o z n => ?_) (rows.keep kt)
    · rw [upd_same]
      show _ = some (HO.ins C dx [("_table", V.ref r), ("_letters", V.str (tx L))])
      refine congrArg (fun l => some (HO.ins C dx l)) ?_
      show (if ("_table" : Str) = "_letters" then [(("_table" : Str), V.str (tx L))] else (("_table" : Str), V.ref r) :: putF "_letters" (V.str (tx L)) []) = _
      rw [if_neg (by decide +kernel)]
      rfl
    · rw [upd_ne n, upd_ne n]
      exact s1 _ _ z
theorem scGr : FnScope ["letters", "start", "step"] ["letters", "start", "step"] (defScope sGrown) := ⟨rfl, rfl, rfl, by decide +kernel, rfl, by decide +kernel, by decide +kernel⟩
theorem ok_grown {α : Type} [DecidableEq α] {kit : Kit α} {kf : Nat} {f : Addr} {fd : FuncData} (F : Fun K "_grown" "_grown" sGrown f fd) (M : TBx K mg C cD) (gE : mg "explored" = some (.ref fE)) (kE : PySem.W.keepIn K (.ref fE) = true) (GE : FnOk P w K mg base CX0 (kf + 1) fE dE ["signs", "start", "step", "most"] (spExpl P w K mg base kit kf))
    (MI : Mk K cD fI) (GI : FnOk P w K mg base CX0 1 fI dI ["self", "rows"] (spMadeI cD)) (bI : Binds K dI ["self", "rows"] []) (bE : Binds K dE ["signs", "start", "step", "most"] []) :
    FnOk P w K mg base CX0 (kf + 3) f fd ["letters", "start", "step"] (spGrown P w K mg base kit kf cD) := by
  obtain ⟨tm, most⟩ := M.most
  refine F.ok scGr (fun vs H Q E h => ?_) (fun cdv A outer s H vs Q E hr h => ?_)
  · obtain ⟨L, v0, start, fa, fn, B, rfl, _⟩ := h
    rfl
  · obtain ⟨L, v0, start, fa, fn, B, rfl, hL, ⟨G, sp, ok, is0, cv, g0, gk, ok0, okc, hstep, hB, hB4⟩, q⟩ := h
    have hr1 : Room (kf + 1) _ := hr.mono (by omega)
    have hr2 : Room 2 _ := hr.mono (by omega)
    refine ⟨_, pss_one (ps_ret (pe_make (E := E0) MI GI hr2 rfl M.gD bI .nil pass0 (pa_cons (pe_ix ix_tup (pe_call (E := E0) GE hr1 rfl gE kE bE .nil pass0 (pa_cons (pv 0) (pa_cons (pv 1) (pa_cons (pv 2) (pa_cons (pe_glob rfl most (show RelV (.int 400) (.int 400 tm) from ⟨tm, rfl⟩)) pa_nil))))) pe_int (fun _ _ => rfl)) pa_nil))), ?_⟩
    refine ⟨_, rfl, _, rfl, _, rfl, L, v0, start, fa, G, sp, fn, ok, B, rfl, hL, is0, cv, g0, gk, ok0, okc, hstep, hB, hB4, fun t k r ts vs H1 s1 ht hk hare hr' hobj => ?_⟩
    refine ⟨t, _, _, _, rfl, rfl, SqT.of ht, rfl, ?_⟩
    intro x dx hx hdx ne
    refine ⟨x, dx, _, rfl, upd_same, rfl, ?_⟩
    have s3 : Same H1 (upd (upd (upd H1 dx (.own x)) x (.ins cD dx [])) x (.ins cD dx [("rows", .ref r)])) := fun b o z => by rw [upd_ne (ne_of_none z hx), upd_ne (ne_of_none z hx), upd_ne (ne_of_none z hdx)]; exact z
    exact q x _ (s1.free hx) (s1.trans s3) ⟨dx, r, upd_same, ts, s3 _ _ hr', objs_tup hobj (Same.tup' s3)⟩
end
end WK
set_option Elab.async false
set_option linter.all false
set_option maxRecDepth 100000
set_option maxHeartbeats 8000000
set_option Elab.async false
set_option linter.all false
set_option maxRecDepth 100000
set_option maxHeartbeats 8000000
namespace L2
open PySem PySem.Spec PyProof.Rows
end L2
namespace LCX
open PySem L2 PyProof.Rows WK
end LCX
namespace WK
open PySem L2 PyProof.Rows LCX K1
open TX (sg sigs)
open PySem.W (Frag kitOne)
/-- one step, and the way of a word -/
def stepL (L : W) (tb : List (List Int)) (r : Int) (c : Nat) : Int := (tb.getD r.toNat []).getD (L.idxOf c) 0
def ledL (L : W) (tb : List (List Int)) (u : W) (st : Int) : Int := u.foldl (stepL L tb) st
theorem Objs.get {mk : List Int → HO} {H : Hp} : ∀ {as : List Addr} {rs : List (List Int)} {i : Nat}, Objs mk H as rs → i < rs.length → ∃ a, as[i]? = some a ∧ H a = some (mk (rs.getD i []))
  | _ :: _, _ :: _, 0, h, _ => ⟨_, rfl, h.1⟩
  | _ :: _, _ :: _, _ + 1, h, hi => h.2.get (Nat.lt_of_succ_lt_succ hi)
  | [], _ :: _, _, h, _ => h.elim
  | _, [], _, _, hi => absurd hi (Nat.not_lt_zero _)
/-- a table in tuples at t -/
def TTab (K : Frag) (H : Hp) (t : Addr) (tb : List (List Int)) : Prop := ∃ ts : List Addr, SqT K H t (ts.map V.ref) ∧ Objs oTup H ts tb
theorem TTab.same {K : Frag} {H H' : Hp} {t : Addr} {tb : List (List Int)} (h : TTab K H t tb) (s : Same H H') : TTab K H' t tb := let ⟨ts, a, b⟩ := h; ⟨ts, seqT s a, b.to fun _ _ _ z => s _ _ z⟩
end WK
set_option Elab.async false
set_option linter.all false
set_option maxRecDepth 100000
set_option maxHeartbeats 8000000
namespace WK
open PySem L2 PyProof.Rows LCX K1 FV DP
open TX (sg sigs)
open PySem.W (Frag kitOne)
abbrev rngI (n : Nat) : List Int := (List.range n).map fun i => ((i : Nat) : Int)
/-- numbers below n, each once -/
structure Few (n : Int) (o : List Int) : Prop where
  nd : o.Nodup
  in_ : ∀ a ∈ o, 0 ≤ a ∧ a < n
theorem Few.len {n : Int} {o : List Int} (h : Few n o) : (o.length : Int) ≤ n ∨ o = [] := by
  cases o with
  | nil => exact .inr rfl
  | cons a o =>
    refine .inl ?_
    have h0 := h.in_ a (.head _)
    have sub : (a :: o) ⊆ rngI n.toNat := fun x hx => by
      have := h.in_ x hx
      exact List.mem_map.mpr ⟨x.toNat, List.mem_range.mpr (by omega), by omega⟩
    have := h.nd.length_le_of_subset sub
    rw [List.length_map, List.length_range] at this
    omega
def Keys (kvs : List (Key × V)) (o : List Int) : Prop := kvs.map (·.1) = o.map (Sum.inl : Int → Key)
theorem Keys.len {kvs : List (Key × V)} {o : List Int} (h : Keys kvs o) : kvs.length = o.length := by
  have := congrArg List.length h
  rw [List.length_map, List.length_map] at this
  exact this
theorem Keys.val {kvs : List (Key × V)} {o : List Int} (h : Keys kvs o) (a : Int) : valV kvs (Sum.inl a : Key) ≠ none ↔ a ∈ o := by
  have e1 : (Sum.inl a : Key) ∈ kvs.map (·.1) ↔ a ∈ o := by
    rw [show kvs.map (·.1) = _ from h, List.mem_map]
    exact ⟨fun ⟨b, hb, e⟩ => Sum.inl.inj e ▸ hb, fun hb => ⟨a, hb, rfl⟩⟩
  rw [← e1]
  unfold valV
  rw [List.mem_map, ne_eq, Option.map_eq_none_iff, List.find?_eq_none]
  constructor
  · intro z
    rcases Classical.em (∃ p, p ∈ kvs ∧ p.1 = (Sum.inl a : Key)) with y | y
    · exact y
    · exact absurd (fun p hp q => y ⟨p, hp, of_decide_eq_true q⟩) z
  · rintro ⟨p, hp, e⟩ z
    exact z p hp (decide_eq_true e)
theorem Keys.put {kvs : List (Key × V)} {o : List Int} (h : Keys kvs o) {a : Int} (ha : a ∉ o) (v : V) : Keys (putK kvs (Sum.inl a : Key) v) (o ++ [a]) := by
  have : valV kvs (Sum.inl a : Key) = none := Classical.byContradiction fun z => ha ((h.val a).mp z)
  rw [putK_new v this]
  unfold Keys
  rw [List.map_append, List.map_append, show kvs.map (·.1) = _ from h] <;> rfl
end WK
set_option Elab.async false
set_option linter.all false
set_option maxRecDepth 100000
set_option maxHeartbeats 8000000
namespace WK
open PySem L2 PyProof.Rows LCX K1 FV DP LamX NdefX
open TX (sg sigs)
open PySem.W (Frag kitOne)
def lamSc : Expr → Scope
  | .Lambda _ _ s _ => s
  | _ => defScope (.Pass ⟨0, 0, 0, 0⟩)
def lamPar : Expr → Arguments
  | .Lambda a _ _ _ => a
  | _ => defArgs (.Pass ⟨0, 0, 0, 0⟩)
def lamBody : Expr → Expr
  | .Lambda _ b _ _ => b
  | e => e
theorem clo_only {cells : List (Str × Addr)} {y : Str} {c : Addr} : ∀ {names : List (Str × NameKind)} {acc : List (Str × Addr)}, (cloFrom cells names acc).lookup y = some c → (y, NameKind.free) ∈ names ∨ acc.lookup y = some c
  | [], _, h => .inr h
  | (n, k) :: r, acc, h => by
    unfold cloFrom at h
    by_cases hk : (k == NameKind.free) = true
    · rw [if_pos hk] at h
      rcases clo_only h with z | z
      · exact .inl (.tail _ z)
      · rw [List.lookup_cons] at z
        by_cases hy : (y == n) = true
        · have e1 : y = n := beq_iff_eq.mp hy
          have e2 : k = .free := by cases k <;> first | rfl | cases hk
          rw [e1, e2]
          exact .inl (.head _)
        · rw [show (y == n) = false from Bool.eq_false_iff.mpr hy] at z
          exact .inr z
    · rw [if_neg hk] at h
      rcases clo_only h with z | z
      · exact .inl (.tail _ z)
      · exact .inr z
end WK
set_option Elab.async false
set_option linter.all false
set_option maxRecDepth 100000
set_option maxHeartbeats 8000000
namespace WK
open PySem L2 PyProof.Rows LCX K1 FV DP LamX NdefX
open TX (sg sigs)
open PySem.W (Frag kitOne)
theorem Grows.refl {T : List (Addr × Str)} {H : Hp} (t : Tabs T H) : Grows T H H := ⟨ExtN.refl H, t, fun _ h => h⟩
theorem grows_same {T : List (Addr × Str)} {H H1 H2 : Hp} (a : Grows T H H1) (s : Same H1 H2) : Grows T H H2 := ⟨fun b o e n => s _ _ (a.1 b o e n), a.2.1.ext s, fun d n => a.2.2 d (s.free n)⟩
/-- what a call that was told of cells made, told without them -/
theorem same_off {cs : Cs} {H H' : Hp} (n : ∀ p ∈ cs, H p.1 = none) (s : Same (onn cs H) H') : Same H (off cs H') := fun b o e => by
  have nb : b ∉ cs.map (·.1) := fun z => by
    obtain ⟨p, hp, rfl⟩ := List.mem_map.mp z
    rw [n p hp] at e
    cases e
  rw [off_out nb]
  exact s b o (by rw [onn_out nb]; exact e)
theorem lay_same {cs : Cs} {H H' : Hp} (nd : (cs.map (·.1)).Nodup) (s : Same (onn cs H) H') : Lay cs H' := fun p hp => s _ _ (onn_lay nd p hp)
theorem madeAt_off {cs : Cs} {cD : Addr} {H : Hp} {g : Addr} {tb : List (List Int)} (l : Lay cs H) (m : MadeAt cD H g tb) : MadeAt cD (off cs H) g tb := by
  obtain ⟨dx, r, h1, ts, h2, h3⟩ := m
  exact ⟨dx, r, by rw [off_out (lay_not l h1 fun _ z => nomatch z)]; exact h1, ts, by rw [off_out (lay_not l h2 fun _ z => nomatch z)]; exact h2, h3.to fun a _ r z => by rw [off_out (lay_not l z fun _ z => nomatch z)]; exact z⟩
theorem off_keep {cs : Cs} {H : Hp} {b : Addr} {o : HO} (l : Lay cs H) (e : H b = some o) (n : ∀ φ, o ≠ .ext φ) : FV.off cs H b = some o := by
  rw [off_out (lay_not l e n)]
  exact e
theorem same_on {cs : Cs} {H H' : Hp} (l : Lay cs H) (nd : (cs.map (·.1)).Nodup) (s : Same (FV.off cs H) H') (n : ∀ p ∈ cs, H' p.1 = none) : Same H (onn cs H') := fun b o e => by
  by_cases hb : b ∈ cs.map (·.1)
  · obtain ⟨p, hp, rfl⟩ := List.mem_map.mp hb
    rw [onn_lay nd p hp, ← l p hp]
    exact e
  · rw [onn_out hb]
    exact s b o (by rw [off_out hb]; exact e)
theorem on_keep {cs : Cs} {H : Hp} {b : Addr} {o : HO} (n : ∀ p ∈ cs, H p.1 = none) (e : H b = some o) : onn cs H b = some o := by
  rw [onn_out fun z => ?_]
  · exact e
  · obtain ⟨p, hp, rfl⟩ := List.mem_map.mp z
    rw [n p hp] at e
    cases e
end WK
set_option Elab.async false
set_option linter.all false
set_option maxRecDepth 100000
set_option maxHeartbeats 8000000
namespace ZPT
open PySem PySem.Spec PyProof.Rows L2
/-- each sign with the tuple's item, in a new pair -/
def ZiST (K : PySem.W.Frag) (x : Str) (a : Addr) (ys : List V) : It :=
  ⟨fun i H => SqT K H a ys ∧ i < x.cps.size ∧ i < ys.length, fun i H v H' => ∃ T c y, v = .ref T ∧ H T = none ∧ H' = upd H T (.tup [.str ⟨#[c]⟩, y]) ∧ x.cps[i]? = some c ∧ ys[i]? = some y, fun i H => SqT K H a ys ∧ i = x.cps.size ∧ i ≤ ys.length⟩
theorem tup_is {h : Heap} {a : Addr} {its : Array Value} (p : IsTup h a its) : h.IsTuple a its := let ⟨o, e, c, n, d⟩ := p; ⟨o, e, c, n, d⟩
/-- where it stands, i pairs out -/
def At (x : Str) (t : Tok) (a z TI TO i1 i2 : Addr) (i : Nat) (h : Heap) : Prop :=
  IsZip h z TI TO .none ∧ IsTupOf2 h TI (.ref i1) (.ref i2) ∧ (∃ p q, IsTupOf2 h TO p q) ∧ h.IsStrIter i1 (strIterType x) x t i ∧ h.IsTupleIter i2 a i
theorem turn_st {P : Program} {w : World} {K : PySem.W.Frag} {elts : List Expr} {kk : Nat} {tpos : Pos} (x : Str) (t : Tok) (a : Addr) (ys : List V) {z TI TO i1 i2 : Addr} (S : ZipSep2 z TI TO i1 i2 [i1] [i2, a]) (hai : a ≠ i2) :
    Turn P w K (.Tuple elts kk tpos) (ZiST K x a ys) [z, TI, TO, i1, i2] z (At x t a z TI TO i1 i2) where
  mem := .head _
  obj := fun i h ⟨hz, h1, ⟨p, q, h2⟩, ⟨o3, h3, _, d3⟩, ⟨o4, h4, _, d4⟩⟩ b hb => by
    simp only [List.mem_cons, List.not_mem_nil, or_false] at hb
    rcases hb with rfl | rfl | rfl | rfl | rfl
    · exact ⟨_, hz, fun v q => nomatch q⟩
    · exact ⟨_, h1, fun v q => nomatch q⟩
    · exact ⟨_, h2, fun v q => nomatch q⟩
    · exact ⟨o3, h3, fun v q => nomatch d3.symm.trans q⟩
    · exact ⟨o4, h4, fun v q => nomatch d4.symm.trans q⟩
  keep := fun i h h' ⟨hz, h1, ⟨p, q, h2⟩, ⟨o3, e3, r3⟩, h4⟩ k => ⟨k z (by simp) _ hz, k TI (by simp) _ h1, ⟨p, q, k TO (by simp) _ h2⟩, ⟨o3, k i1 (by simp) _ e3, r3⟩, h4.at fun o e => k i2 (by simp) o e⟩
  item := by
    intro X hP hw hK hc i pins s σ H E I hf ⟨hz, h1, ⟨p, q, h2⟩, h3, h4⟩ ⟨hT, hi1, hi2⟩
    subst hP hw hK
    obtain ⟨its, rv, pt, _⟩ := I.tuple hT
    have hl : its.toArray.size = ys.length := by rw [List.size_toArray, rv.length]
    have D1 := Draws.text (prog := X.prog) (w := X.w) (A := X.A.in1) (I.ok.hd hc) i1 x t
    have D2 := Draws.tuple (prog := X.prog) (w := X.w) (A := X.A.in1) (I.ok.hd hc) i2 a hai its.toArray
    have zlt : z < s.heap.objs.size := Heap.lt_size hz
    have old : ∀ b ∈ [z, TI, TO, i1, i2], b < s.heap.objs.size := fun b hb => by
      simp only [List.mem_cons, List.not_mem_nil, or_false] at hb
      rcases hb with rfl | rfl | rfl | rfl | rfl
      · exact zlt
      · exact Heap.lt_size h1
      · exact Heap.lt_size h2
      · obtain ⟨o, e, _⟩ := h3
        exact Heap.lt_size e
      · obtain ⟨o, e, _⟩ := h4
        exact Heap.lt_size e
    refine wpAny_pyNext_zipD2_item S D1 D2 hz h1 h2 h3 ⟨h4, tup_is pt⟩ hi1 (by rw [hl]; exact hi2) fun u v h' tk hu hv z1 TO1 n1 n2 made size kp => ?_
    obtain ⟨c, tc, hc', rfl⟩ := hu
    obtain ⟨y, hy⟩ : ∃ y, ys[i]? = some y := ⟨_, List.getElem?_eq_getElem hi2⟩
    obtain ⟨v2, e2, ry⟩ := rv.get hy
    have ev : v2 = v := Option.some.inj (e2.symm.trans (by rw [← List.getElem?_toArray]; exact hv))
    subst ev
    refine ⟨_, rfl, wpAny_letOwnedTupleGo_zip (s := { s with heap := h', toks := tk }) z1 fun h'' z2 sb => ?_⟩
    have free : H s.heap.objs.size = none := I.hok.fresh (Nat.le_refl _)
    have pair : h''.get? s.heap.objs.size = some { cls := .type "tuple", data := .seq #[.str ⟨#[c]⟩ tc, v2] } := (sb.2 _ (Nat.ne_of_gt zlt)).trans made
    have new : ObjOk X.prog X.w (upd H s.heap.objs.size (.tup [.str ⟨#[c]⟩, y])) h'' s.heap.objs.size (.tup [.str ⟨#[c]⟩, y]) := ⟨by show 2 ≤ sizeLine; decide, [.str ⟨#[c]⟩ tc, v2], .cons ⟨tc, rfl⟩ (.cons ry .nil), _, pair, rfl, _, rfl⟩
    have stay : ∀ b o, b ∉ [z, TI, TO, i1, i2] → s.heap.get? b = some o → h''.get? b = some o := fun b o hb e => (sb.2 b fun w => hb (by simp [w])).trans (kp b o (fun w => hb (by simp [w])) (fun w => hb (by simp [w])) (fun w => hb (by simp [w])) (fun w => hb (by simp [w])) e)
    refine ⟨.ref s.heap.objs.size, _, I.turnedNew (ch := [z, TI, TO, i1, i2]) stay hf (Nat.le_refl _) new, rfl, ⟨_, c, y, rfl, free, rfl, hc', hy⟩, ⟨z2, ?_, ⟨_, _, (sb.2 _ S.TOz).trans TO1⟩, ?_, ?_⟩, fun b hb => ?_⟩
    · exact (sb.2 _ S.TIz).trans (kp _ _ S.TIz S.TITO S.TIi1 S.TIi2 h1)
    · obtain ⟨o, e, r⟩ := n1
      exact ⟨o, (sb.2 _ S.zi1.symm).trans e, r⟩
    · exact n2.1.at fun o e => (sb.2 _ S.zi2.symm).trans e
    · rw [upd_ne (Nat.ne_of_lt (old b hb))]
      exact (hf b hb).1
  done := by
    intro X hP hw hK hc i pins s σ H E I hf ⟨hz, h1, ⟨p, q, h2⟩, h3, h4⟩ ⟨hT, hi1, hi2⟩
    subst hP hw hK
    obtain ⟨its, rv, pt, _⟩ := I.tuple hT
    have hl : its.toArray.size = ys.length := by rw [List.size_toArray, rv.length]
    have D1 := Draws.text (prog := X.prog) (w := X.w) (A := X.A.in1) (I.ok.hd hc) i1 x t
    have D2 := Draws.tuple (prog := X.prog) (w := X.w) (A := X.A.in1) (I.ok.hd hc) i2 a hai its.toArray
    exact wpAny_pyNext_zipD2_end S D1 D2 hz h1 h2 h3 ⟨h4, tup_is pt⟩ (Nat.le_of_eq hi1) (by rw [hl]; exact hi2) (.inl hi1) fun h' tk kp => ⟨rfl, I.turnedL (t' := tk) (ch := [z, TI, TO, i1, i2]) (fun b o hb e =>
      kp b o (fun w => hb (by simp [w])) (fun w => hb (by simp [w])) (fun w => hb (by simp [w])) (fun w => hb (by simp [w])) e) hf⟩
  self := fun _ _ _ _ _ st q => wpAny_pyIter_zip st.1 q
def iZipST (K : PySem.W.Frag) (ta : TA) : TI := fun σ H R => ta σ H fun vs H1 => ∃ x a ys, vs = [.str x, .ref a] ∧ SqT K H1 a ys ∧ R (ZiST K x a ys) H1
theorem pi_zipST {X : Cx} {e e2 : Expr} {ta : TA} {p pos tpos : Pos} {elts : List Expr} {kk : Nat} (hg : Gl X "zip") (hm : X.mg "zip" = none) (ha : PA X [e, e2] ta)
    (hs : starEach [e, e2] X.env = (false, eval e X.env) :: starEach [e2] X.env := by rfl) (hpl : (backTo pos (starEach [e2] X.env)).any (·.1) = false := by rfl) :
    PI X (.Tuple elts kk tpos) (.Call (.Name "zip" p) [e, e2] [] pos) (iZipST X.K ta) := by
  refine ⟨fun pins s σ H R I h => Call_ (ld_blt I hg hm PyProof.Rows.boot_zip (PyProof.Rows.callWith_type1 (thn (ha.run pos pins s σ H _ I h) fun us s1 ⟨vs, H1, I1, r1, x, a, ys, ex, hT, q⟩ => ?_) hs hpl))⟩
  subst ex
  cases r1 with
  | cons r rr =>
   cases rr with
   | cons r' rr =>
    cases rr
    obtain ⟨t, rfl⟩ := r
    cases r'
    obtain ⟨its, rv, pt, _⟩ := I1.tuple hT
    obtain ⟨o, ho, _⟩ := id pt
    have lt := Heap.lt_size ho
    refine zip_begins2 (begins_text x t) (begins_tuple a its.toArray) trivial (tup_is pt) fun h' hz hTI hTO g1 g2 size kp => wpAny_pyIter_zip hz ?_
    have fresh : ∀ b ∈ [s1.heap.objs.size + 4, s1.heap.objs.size + 2, s1.heap.objs.size + 3, s1.heap.objs.size, s1.heap.objs.size + 1], FpOk X pins H1 b := fun b hb => by
      have le : s1.heap.objs.size ≤ b := by
        have hb' : b = s1.heap.objs.size + 4 ∨ b = s1.heap.objs.size + 2 ∨ b = s1.heap.objs.size + 3 ∨ b = s1.heap.objs.size ∨ b = s1.heap.objs.size + 1 := by simpa using hb
        rcases hb' with z | z | z | z | z <;> rw [z] <;> first | exact Nat.le_refl _ | exact Nat.le_add_right _ _
      exact I1.fpOk le (I1.hok.fresh le)
    have S := zip_sep2 (N := s1.heap.objs.size) (fp1 := []) (fp2 := [a]) (fun _ h => (List.not_mem_nil h).elim) fun b hb => by rw [List.mem_singleton.mp hb]; exact lt
    exact ⟨s1.heap.objs.size + 4, [s1.heap.objs.size + 4, s1.heap.objs.size + 2, s1.heap.objs.size + 3, s1.heap.objs.size, s1.heap.objs.size + 1], _, _, H1, rfl, I1.kept (t' := s1.toks) kp, turn_st x t a ys S (Nat.ne_of_lt (Nat.lt_succ_of_lt lt)), ⟨hz, hTI, ⟨_, _, hTO⟩, ⟨_, g1, rfl, rfl⟩, ⟨_, g2, rfl, rfl⟩⟩, fresh, q⟩
theorem walk_st {K : PySem.W.Frag} {x : Str} {a : Addr} {ys : List V} (hl : x.cps.size = ys.length) : Walk (ZiST K x a ys) x.cps.size (fun H => SqT K H a ys) (YPair (fun i => (x.cps[i]?).map fun c => V.str ⟨#[c]⟩) (fun i => ys[i]?)) :=
  ⟨fun i H hi q => ⟨q, hi, by omega⟩, fun H q => ⟨q, rfl, by omega⟩, fun i H v H' _ _ ⟨T, c, y, e1, e2, e3, e4, e5⟩ => ⟨T, _, y, e1, e2, e3, by show Option.map _ (x.cps[i]?) = _; rw [e4] <;> rfl, e5⟩⟩
end ZPT
set_option Elab.async false
set_option linter.all false
set_option maxRecDepth 100000
set_option maxHeartbeats 4000000
namespace NCX
open PySem PySem.Spec PyProof.Rows L2 LamX NdefX
/-- the new cells lie ahead of the captured ones -/
theorem cf_app : ∀ (names : List (Str × NameKind)) (n : Nat) (acc : List (Str × Addr)), cellsFrom n names acc = cellsFrom n names [] ++ acc
  | [], _, _ => rfl
  | (x, k) :: r, n, acc => by
    unfold cellsFrom
    split
    · rw [cf_app r (n + 1) ((x, n) :: acc), cf_app r (n + 1) [(x, n)], List.append_assoc] <;> rfl
    · exact cf_app r n acc
theorem look_app {α : Type} {x : Str} : ∀ (l m : List (Str × α)), (l ++ m).lookup x = (l.lookup x).or (m.lookup x)
  | [], _ => rfl
  | (y, a) :: l, m => by
    rw [List.cons_append, List.lookup_cons, List.lookup_cons]
    cases x == y with
    | true => rfl
    | false => exact look_app l m
theorem own_look {names : List (Str × NameKind)} {n : Nat} {cl : List (Str × Addr)} {x : Str} {c : Addr} (h : (cellsFrom n names []).lookup x = some c) : (cellsFrom n names cl).lookup x = some c := by
  rw [cf_app, look_app, h] <;> rfl
theorem two_look {names : List (Str × NameKind)} {n : Nat} {cl : List (Str × Addr)} {x : Str} {c : Addr} (h : (cellsFrom n names cl).lookup x = some c) : (cellsFrom n names []).lookup x = some c ∨ ((cellsFrom n names []).lookup x = none ∧ cl.lookup x = some c) := by
  rw [cf_app, look_app] at h
  cases e : (cellsFrom n names []).lookup x with
  | some d =>
    rw [e] at h
    exact .inl h
  | none =>
    rw [e] at h
    exact .inr ⟨rfl, h⟩
theorem own_only : ∀ (names : List (Str × NameKind)) (n : Nat) (acc : List (Str × Addr)) {x : Str} {c : Addr}, (cellsFrom n names acc).lookup x = some c → (∃ q ∈ names, q.1 = x ∧ q.2 = .cell) ∨ acc.lookup x = some c
  | [], _, _, _, _, h => .inr h
  | (y, k) :: r, n, acc, x, c, h => by
    unfold cellsFrom at h
    split at h
    · rename_i hk
      rcases own_only r _ _ h with ⟨q, h1, h2⟩ | z
      · exact .inl ⟨q, .tail _ h1, h2⟩
      · rw [List.lookup_cons] at z
        cases e : x == y with
        | true => exact .inl ⟨_, .head _, (beq_iff_eq.mp e).symm, beq_iff_eq.mp hk⟩
        | false =>
          rw [e] at z
          exact .inr z
    · rcases own_only r _ _ h with ⟨q, h1, h2⟩ | z
      · exact .inl ⟨q, .tail _ h1, h2⟩
      · exact .inr z
section
variable {M : Model} {A : Around} {E : Value → Shared → Prop} {s₀ s : Shared} {env : Env} {cs : List (Str × Addr)}
/-- the parameters are stored, where the frame's own cells are cs -/
theorem bindN (f : Str × Value → PUnit → Sem (ForInStep PUnit)) (hf : ∀ n v u, f (n, v) u = (do storeName env n v; pure (.yield ⟨⟩))) (hk : env.scope.kind = .function) :
    ∀ (binds : List (Str × Value)) (m cm : Str → Option Value) (s : Shared) (Q : PUnit → Shared → Prop), InCallC s₀ env.locals m cs cm s →
      (∀ x ∈ binds, env.kindOf x.1 = some .local ∨ (env.kindOf x.1 = some .cell ∧ ∃ c, env.cells.lookup x.1 = some c ∧ cs.lookup x.1 = some c)) →
      (∀ s', InCallC s₀ env.locals (bindL env.kindOf binds m) cs (bindC env.kindOf binds cm) s' → Q ⟨⟩ s') → wpAny M A (forIn binds ⟨⟩ f) Q E s
  | [], m, cm, s, Q, x, _, h => by
    rw [List.forIn_nil]
    exact wpAny_pure (h s x)
  | (n, v) :: r, m, cm, s, Q, x, kinds, h => by
    rw [List.forIn_cons, hf]
    have rest := fun y hy => kinds y (List.mem_cons_of_mem _ hy)
    have same : storeName env n v = storeName { env with cells := cs } n v := by
      rcases kinds (n, v) (.head _) with hl | ⟨hl, c, h1, h2⟩
      · unfold storeName
        have hl2 : ({ env with cells := cs } : Env).kindOf n = some .local := hl
        rw [hl, hl2]
        rfl
      · unfold storeName
        have hl2 : ({ env with cells := cs } : Env).kindOf n = some .cell := hl
        rw [hl, hl2]
        simp only [PySem.cellOf, h1, h2]
        rfl
    rw [same]
    rcases kinds (n, v) (.head _) with hl | ⟨hl, c, h1, h2⟩
    · refine wpAny_bind (wpAny_bind (stLC (env := { env with cells := cs }) x hk hl fun s' x' => wpAny_pure (bindN f hf hk r _ _ s' Q x' rest fun s'' x'' => h s'' ?_)))
      unfold bindL bindC
      rw [if_pos hl, if_pos hl]
      exact x''
    · have hnl : ¬ env.kindOf n = some .local := by rw [hl]; decide
      refine wpAny_bind (wpAny_bind (stCC (env := { env with cells := cs }) x hk hl h2 fun s' x' => wpAny_pure (bindN f hf hk r _ _ s' Q x' rest fun s'' x'' => h s'' ?_)))
      unfold bindL bindC
      rw [if_neg hnl, if_neg hnl]
      exact x''
theorem frame_made {scope : Scope} {globals : Addr} {cl : List (Str × Addr)} {binds : List (Str × Value)} {qual : Str} {func : Option Addr} {code : Value} {builtins : Addr} {Q : Env → Shared → Prop} (hk : scope.kind = .function)
    (kinds : ∀ x ∈ binds, scope.names.lookup x.1 = some .local ∨ scope.names.lookup x.1 = some .cell)
    (h : ∀ env, env = newEnv scope s.heap.objs.size globals (cellsFrom (s.heap.objs.size + 1) scope.names cl) qual func code none builtins →
      ∀ s', InCallC s env.locals (bindL env.kindOf binds fun _ => none) (cellsFrom (s.heap.objs.size + 1) scope.names []) (bindC env.kindOf binds fun _ => none) s' → Q env s') :
    wpAny M A (newFunctionEnv scope globals cl binds qual func code none builtins) Q E s := by
  simp only [newFunctionEnv, Option.isSome_none, Bool.false_eq_true, if_false]
  refine wpAny_bind (wpAny_alloc (wpAny_bind (wpAny_layCells _ (fun name kind cells => by cases hkc : kind == NameKind.cell <;> simp [hkc]) _ _ _ _ ?_)))
  have size : (s.heap.push { cls := .type "frame", data := .dict #[] }).objs.size = s.heap.objs.size + 1 := Heap.size_push ..
  have ok := cellsFrom_ok scope.names (s.heap.push { cls := .type "frame", data := .dict #[] }) (s.heap.objs.size + 1) [] ⟨fun _ _ hm => (nomatch hm), List.Pairwise.nil⟩ (Nat.le_of_eq size.symm)
  rw [size] at ok
  rw [show ({ s with heap := s.heap.push { cls := .type "frame", data := .dict #[] } } : Shared).heap.objs.size = s.heap.objs.size + 1 from size]
  refine wpAny_bind (bindN (s₀ := s) (env := newEnv scope s.heap.objs.size globals (cellsFrom (s.heap.objs.size + 1) scope.names cl) qual func code none builtins) _ (fun _ _ _ => rfl) hk binds (fun _ => none) (fun _ => none) _ _
    ⟨⟨⟨_, _, rfl⟩, (Heap.Ns.new s.heap (.type "frame")).keeps (pushCells_keeps _ _), fun b o e => pushCells_keeps _ _ b o (Heap.get?_push_of_some _ e), Nat.le_refl _⟩, fun n c hc => (ok.empty n c (mem_of_lookup hc)).1, ok.apart, fun n c hm => (ok.empty n c hm).2⟩
    (fun x hx => (kinds x hx).imp id fun z => ?_) fun s' x => wpAny_pure (h _ rfl s' x))
  obtain ⟨c, hc⟩ := Option.isSome_iff_exists.mp (PySem.W.cellsFrom_some scope.names (s.heap.objs.size + 1) [] (.inl z))
  exact ⟨z, c, own_look hc, hc⟩
end
/-- how a def's names lie: those it is asked with, those it caught, its own; what it is asked with may be kept in a cell -/
structure NScopeC (N asked caught : List Str) (sc : Scope) : Prop where
  plain : sc.kind = .function ∧ sc.isCoroutine = false ∧ sc.isGenerator = false
  lie : ∃ own : List Str, N = asked ++ (caught ++ own)
  nd : N.Nodup
  ask : ∀ p ∈ asked, sc.names.lookup p = some .local ∨ sc.names.lookup p = some .cell
  got : ∀ p ∈ caught, sc.names.lookup p = some .free ∧ (p, NameKind.cell) ∉ sc.names
  only : ∀ q ∈ sc.names, q.2 = .free → q.1 ∈ caught
/-- what a slot holds at the entry: what was asked, or what was caught -/
theorem slot_of {N asked caught own : List Str} (e : N = asked ++ (caught ++ own)) {vs : List V} {ws : List (Option V)} (la : vs.length = asked.length) (lc : ws.length = caught.length) {i : Nat} {y : Str} {v : V} (hy : N[i]? = some y) (hv : (startF N vs ws)[i]? = some (some v)) :
    (asked[i]? = some y ∧ vs[i]? = some v) ∨ ∃ j : Nat, caught[j]? = some y ∧ ws[j]? = some (some v) := by
  subst e
  unfold startF at hv
  rcases Nat.lt_or_ge i asked.length with lt | ge
  · left
    rw [List.getElem?_append_left (by rw [List.length_map]; omega), List.getElem?_map, Option.map_eq_some_iff] at hv
    obtain ⟨z, h1, h2⟩ := hv
    cases h2
    exact ⟨by rw [List.getElem?_append_left lt] at hy; exact hy, h1⟩
  · right
    rw [List.getElem?_append_right ge] at hy
    rw [List.getElem?_append_right (by rw [List.length_map]; omega), List.length_map, la] at hv
    generalize i - asked.length = j at hy hv
    rcases Nat.lt_or_ge j caught.length with lt | ge2
    · rw [List.getElem?_append_left (Nat.lt_of_lt_of_eq lt lc.symm)] at hv
      rw [List.getElem?_append_left lt] at hy
      exact ⟨j, hy, hv⟩
    · rw [List.getElem?_append_right (Nat.le_trans (Nat.le_of_eq lc) ge2)] at hv
      cases (List.mem_replicate.mp (List.mem_of_getElem? hv)).2
abbrev envC (F : NF) (f L : Addr) : Env := PySem.W.envX F.qual F.scope L f (.ref F.c) (cellsFrom (L + 1) F.scope.names F.cl)
/-- where its body runs -/
def ccx (CX : CXT) (P : Program) (w : World) (K : PySem.W.Frag) (mg : Str → Option Value) (base : Heap) (N : List Str) (F : NF) (f : Addr) (A : Around) (outer : List Env) (s : Shared) (H : Hp) (E : XK) : Cx :=
  let here := envC F f s.heap.objs.size
  { prog := P, w := w, K := K, mg := mg, base := base, A := A.deeper here, N := N, s_0 := s, H_0 := H, env := here, outer := outer, stack := here :: outer, ex := [], calm := true, fn := fun _ => false, pn := [],
    xe := fun e s' => wpAny (model P w) (A.deeper here) (leaving here e) (fun _ s'' => CX outer H s E e s'') (fun e' s'' => CX outer H s E e' s'') s' }
section
variable {CX : CXT} {P : Program} {w : World} {K : PySem.W.Frag} {mg : Str → Option Value} {base : Heap} {N ps fr : List Str} {F : NF} {f : Addr} {A : Around} {outer : List Env} {s s1 : Shared} {H : Hp} {E : XK} {us : List Value} {vs : List V} {ws : List (Option V)} {k : Nat} {sp : List (Option V) → Sp}
/-- a name asked, once it was stored -/
theorem asked_at (S : NScopeC N ps fr F.scope) {i : Nat} {y : Str} {u : Value} (hp : ps[i]? = some y) (hu : us[i]? = some u)
    (x : InCallC s s.heap.objs.size (bindL (envC F f s.heap.objs.size).kindOf (ps.zip us) fun _ => none) (cellsFrom (s.heap.objs.size + 1) F.scope.names []) (bindC (envC F f s.heap.objs.size).kindOf (ps.zip us) fun _ => none) s1) :
    (F.scope.names.lookup y = some .local ∧ bindL (envC F f s.heap.objs.size).kindOf (ps.zip us) (fun _ => none) y = some u) ∨
    (F.scope.names.lookup y = some .cell ∧ ∃ c, (cellsFrom (s.heap.objs.size + 1) F.scope.names F.cl).lookup y = some c ∧ s1.heap.IsCell c (some u)) := by
  obtain ⟨own, e⟩ := S.lie
  have once : ps.Nodup := (List.nodup_append.mp (e ▸ S.nd)).1
  rcases S.ask y (List.mem_of_getElem? hp) with here | here
  · exact .inl ⟨here, bindL_get once hp hu here⟩
  · obtain ⟨c, hc⟩ := Option.isSome_iff_exists.mp (PySem.W.cellsFrom_some F.scope.names (s.heap.objs.size + 1) [] (.inl here))
    have held := x.cell y c hc
    rw [bindC_get once hp hu (fun z => by cases here.symm.trans z)] at held
    exact .inr ⟨here, c, own_look hc, held⟩
/-- a caught name finds the cell that it was caught with -/
theorem caught_at (S : NScopeC N ps fr F.scope) {n : Nat} {y : Str} {c : Addr} (hy : y ∈ fr) (hc : F.cl.lookup y = some c) : (cellsFrom n F.scope.names F.cl).lookup y = some c := by
  rw [cf_app, look_app]
  cases e : (cellsFrom n F.scope.names []).lookup y with
  | none => exact hc
  | some d =>
    rcases own_only _ _ _ e with ⟨⟨q1, q2⟩, hq, rfl, rfl⟩ | z
    · exact absurd hq (S.got _ hy).2
    · cases z
theorem inv_startC (S : NScopeC N ps fr F.scope) (hd : A.handled = none) (e0 : Env0 P w K mg base A outer s H) (hl : vs.length = ps.length) (r : Vals vs us) (C : CellsAt F.cl fr ws s.heap H)
    (x : InCallC s s.heap.objs.size (bindL (envC F f s.heap.objs.size).kindOf (ps.zip us) fun _ => none) (cellsFrom (s.heap.objs.size + 1) F.scope.names []) (bindC (envC F f s.heap.objs.size).kindOf (ps.zip us) fun _ => none) s1) :
    Inv (ccx CX P w K mg base N F f A outer s H E) [] (startF N vs ws) H s1 := by
  obtain ⟨own, lie⟩ := S.lie
  have kept := x.done
  obtain ⟨_, tk, rfl, hk⟩ := kept
  have none_out : ∀ b : Addr, ¬ b ∈ (ccx CX P w K mg base N F f A outer s H E).ex := fun b z => List.not_mem_nil (show b ∈ ([] : List Addr) from z)
  have before : ∀ {y : Str} {c : Addr}, F.cl.lookup y = some c → c < s.heap.objs.size := fun {y c} e => (C.all y c e).2.elim fun _ z => z.elim fun _ z => Heap.lt_size z.1
  have after : ∀ {y : Str} {c : Addr}, (cellsFrom (s.heap.objs.size + 1) F.scope.names []).lookup y = some c → s.heap.objs.size < c := fun {y c} e => x.above y c (mem_of_lookup e)
  have found : ∀ y : Str, F.scope.names.lookup y = some .cell ∨ F.scope.names.lookup y = some .free → ∃ c, (cellsFrom (s.heap.objs.size + 1) F.scope.names F.cl).lookup y = some c := fun y hy => by
    rcases hy with z | z
    · exact Option.isSome_iff_exists.mp (PySem.W.cellsFrom_some _ _ _ (.inl z))
    · have inF := S.only _ (mem_of_lookup z) rfl
      obtain ⟨j, hj⟩ := List.mem_iff_getElem?.mp inF
      obtain ⟨c, hc, _⟩ := C.has j y hj
      exact ⟨c, caught_at S inF hc⟩
  have one : ∀ (y z : Str) (c : Addr), (cellsFrom (s.heap.objs.size + 1) F.scope.names F.cl).lookup y = some c → (cellsFrom (s.heap.objs.size + 1) F.scope.names F.cl).lookup z = some c → y = z := fun y z c h1 h2 => by
    rcases two_look h1 with a | ⟨_, a⟩ <;> rcases two_look h2 with b | ⟨_, b⟩
    · exact name_of_addr x.apart (mem_of_lookup a) (mem_of_lookup b)
    · exact absurd (Nat.lt_trans (after a) (before b)) (Nat.lt_irrefl _)
    · exact absurd (Nat.lt_trans (after b) (before a)) (Nat.lt_irrefl _)
    · exact C.inj y z c a b
  have slots : ∀ (i : Nat) (y : Str) (v : V), N[i]? = some y → (startF N vs ws)[i]? = some (some v) → ∃ u, L2.RelV v u ∧ ((F.scope.names.lookup y = some .local ∧ bindL (envC F f s.heap.objs.size).kindOf (ps.zip us) (fun _ => none) y = some u) ∨
      ((F.scope.names.lookup y = some .cell ∨ F.scope.names.lookup y = some .free) ∧ ∃ c, (cellsFrom (s.heap.objs.size + 1) F.scope.names F.cl).lookup y = some c ∧ Heap.IsCell _ c (some u))) := fun i y v hy hv => by
    rcases slot_of lie hl C.len hy hv with ⟨a, b⟩ | ⟨j, a, b⟩
    · obtain ⟨u, hu, rv⟩ := r.get b
      exact ⟨u, rv, (asked_at S a hu x).imp id fun z => ⟨.inl z.1, z.2⟩⟩
    · obtain ⟨c, hc, told⟩ := C.has j y a
      obtain ⟨u, ru, o, ho, hd⟩ := told v b
      have inF := List.mem_of_getElem? a
      exact ⟨u, ru, .inr ⟨.inr (S.got y inF).1, c, caught_at S inF hc, o, hk _ _ ho, hd⟩⟩
  refine ⟨⟨e0.mod, S.plain.1, rfl, rfl, Nat.le_refl _, one, found, fun y c h _ => (Bool.false_ne_true h).elim, fun _ => hd, Around.frames_deeper e0.frames, .inr ⟨rfl, rfl⟩, fun b z => absurd z (none_out b), e0.bs, e0.bsz, fun b _ _ => none_out b, fun b z => absurd z (none_out b), e0.funs, e0.frf⟩,
    rfl, e0.bare, Un.kept hk, ⟨_, x.toInCall.ns, fun i y v a b _ => slots i y v a b⟩, fun y c h => ?_, e0.hok.fresh (Nat.le_refl _), fun y c h => ?_, fun p hp => (List.not_mem_nil hp).elim, e0.hok.kept hk, ?_⟩
  · rcases two_look h with a | ⟨_, a⟩
    · exact ⟨_, x.cell y c a⟩
    · exact (C.all y c a).2.elim fun v z => z.elim fun o z => ⟨v, o, hk _ _ z.1, z.2⟩
  · exact (two_look h).elim (fun a => e0.hok.fresh (Nat.le_of_lt (after a))) fun a => (C.all y c a.2).1
  · have lens := congrArg List.length lie
    have lc := C.len
    simp only [List.length_append] at lens
    show (List.map some vs ++ (ws ++ List.replicate (N.length - vs.length - ws.length) none)).length = N.length
    simp only [List.length_append, List.length_map, List.length_replicate]
    omega
/-- what a body left is what its call gives -/
theorem left_by {σ' : L2.St} {H' : Hp} {s' : Shared} {v : V} {u : Value} {Q : VK} (J : Inv (ccx CX P w K mg base N F f A outer s H E) [] σ' H' s') (rv : L2.RelV v u) (q : Q v H') : CE outer P w H s Q u s' := by
  exact ⟨v, H', J.os, J.bare, J.base, J.hok, rv, q⟩
/-- a nested def with cells of its own, by its body -/
theorem nokC_of (S : NScopeC N ps fr F.scope) (hb : ∀ (doc pm ctv : Value) (us : List Value), us.length = ps.length → bindArgs (F.fd doc pm ctv) ⟨us, []⟩ = pure (ps.zip us)) (len : ∀ ws vs H Q E, sp ws vs H Q E → vs.length = ps.length)
    (body : ∀ (A : Around) (outer : List Env) (s : Shared) (H : Hp) (vs : List V) (ws : List (Option V)) (Q : VK) (E : XK), Room k (A.deeper (envC F f s.heap.objs.size)) → ws.length = fr.length → sp ws vs H Q E →
      ∃ t, PSs (ccx CX P w K mg base N F f A outer s H E) F.body t ∧ t { nx := fun _ H' => Q .non H', rt := Q } (startF N vs ws) H) : NOk P w K mg base CX (k + 1) f F ps fr sp where
  len := len
  run := fun A outer s H us vs ws Q E hr e0 hf hc C r told => by
    have hl := len _ _ _ _ _ told
    obtain ⟨t, rule, q⟩ := body A outer s H vs ws Q E (hr.deeper _) C.len told
    obtain ⟨_, _, doc, pm, ctv, stands⟩ := fnO_at e0.hok hf
    refine codeAny_call_function hr.depth stands rfl S.plain.2.1 S.plain.2.2 rfl (codeO_at e0.hok hc) ?_
    rw [hb doc pm ctv us (r.length ▸ hl)]
    refine wpAny_pure (frame_made S.plain.1 (fun ⟨n, _⟩ hy => S.ask n (List.of_mem_zip hy).1) fun env he s1 x => ?_)
    cases he
    refine ⟨Heap.NoLimit.keeps (e0.mod.nolimit.keeps fun b o e => (e0.bs b o e).1) x.toInCall.keep, codeAny_func (wpAny_mono (rule.run [] s1 (startF N vs ws) H _ (inv_startC S hr.hd e0 hl r C x) q) (fun fl s' z => ?_) fun _ _ z => z)⟩
    cases fl with
    | ret u => exact let ⟨_, _, _, J, rv, a⟩ := z; left_by J rv a
    | next => exact let ⟨_, _, J, a⟩ := z; left_by J (v := .non) rfl a
    | brk => exact z.elim fun _ z => z.elim fun _ z => z.2.elim
    | cont => exact z.elim fun _ z => z.elim fun _ z => z.2.elim
end
end NCX
set_option Elab.async false
set_option linter.all false
set_option maxRecDepth 100000
set_option maxHeartbeats 8000000
namespace WK
open PySem L2 PyProof.Rows LCX K1 FV DP LamX NdefX NCX
open TX (sg sigs)
open PySem.W (Frag kitOne)
abbrev sCount : Stmt := top 67
abbrev sOneM : Stmt := top 68
abbrev sStep : Stmt := (defBody sCount).getD 0 (.Pass ⟨0, 0, 0, 0⟩)
abbrev qStep : Str := (envOfC "_counting" (defScope sCount) 0 0 .none).qual ++ "step"
/-- one more of a letter, and the counts with a letter more -/
def oneM (cap md n : Int) : Int := if n + 1 < cap + md then n + 1 else cap
def cntF (L : W) (cap md : Int) (a : List Int) (c : Nat) : List Int := (L.zip a).map fun p => if p.1 = c then oneM cap md p.2 else p.2
abbrev zeros (L : W) : List Int := L.map fun _ => 0
def spOneM : Sp := fun vs H Q _ => ∃ n cap md : Int, vs = [.int n, .int cap, .int md] ∧ Q (.int (oneM cap md n)) H
def spStep (ws : List (Option V)) : Sp := fun vs H Q _ => ∃ (b : Addr) (L : W) (a : List Int) (c : Nat) (cap md : Int), ws = [some (.str (tx L)), some (.int cap), some (.int md)] ∧ vs = [.ref b, .str (sg c)] ∧ H b = some (.tup (a.map V.int)) ∧ a.length = L.length ∧ L.length ≤ 3 ∧
  ∀ t H', H t = none → Same H H' → H' t = some (.tup ((cntF L cap md a c).map V.int)) → Q (.ref t) H'
theorem cnt_len (L : W) (cap md : Int) (a : List Int) (c : Nat) (h : a.length = L.length) : (cntF L cap md a c).length = L.length := by
  unfold cntF
  rw [List.length_map, List.length_zip, h, Nat.min_self]
section
variable {P : Program} {w : World} {K : PySem.W.Frag} {mg : Str → Option Value} {base : Heap}
theorem scOM : FnScope ["number", "cap", "modulus"] ["number", "cap", "modulus"] (defScope sOneM) := ⟨rfl, rfl, rfl, by decide +kernel, rfl, by decide +kernel, by decide +kernel⟩
theorem ok_onem {f : Addr} {fd : FuncData} (F : Fun K "_one_more" "_one_more" sOneM f fd) : FnOk P w K mg base CX0 1 f fd ["number", "cap", "modulus"] spOneM := by
  refine F.ok scOM (fun vs H Q E h => ?_) (fun cdv A outer s H vs Q E hr h => ?_)
  · obtain ⟨n, cap, md, rfl, _⟩ := h
    rfl
  · obtain ⟨n, cap, md, rfl, q⟩ := h
    refine ⟨_, pss_one (ps_ret (pe_ifExp (pt_cmpR op_lt (pe_op op_add (pv 0) pe_int) (pe_op op_add (pv 1) (pv 2)) (nomark _)) (pe_op op_add (pv 0) pe_int) (pv 1))), ?_⟩
    refine ⟨_, rfl, _, _, rfl, rfl, _, rfl, _, rfl, _, _, rfl, rfl, _, _, rfl, rfl, _, rfl, ?_⟩
    unfold oneM at q
    by_cases h1 : n + 1 < cap + md
    · rw [if_pos h1] at q
      rw [if_pos (decide_eq_true h1)]
      exact ⟨_, rfl, _, _, rfl, rfl, q⟩
    · rw [if_neg h1] at q
      rw [if_neg fun z => h1 (of_decide_eq_true z)]
      exact ⟨_, rfl, q⟩
abbrev NSt : List Str := ["held", "letter", "letters", "cap", "modulus", "sign", "number"]
theorem scSt : NScopeC NSt ["held", "letter"] ["letters", "cap", "modulus"] (C8.fnScope sStep) := ⟨⟨rfl, rfl, rfl⟩, ⟨["sign", "number"], rfl⟩, by decide +kernel, by decide +kernel, by decide +kernel, by decide +kernel⟩
theorem nok_step {f fO : Addr} {dO : FuncData} {F : NF} (hs : F.scope = C8.fnScope sStep) (hp : F.params = C8.fnArgs sStep) (hbd : F.body = C8.fnBody sStep) (T : TN mg) (AO : Fn K mg "_one_more" sOneM ["number", "cap", "modulus"] fO dO) (GO : FnOk P w K mg base CX0 1 fO dO ["number", "cap", "modulus"] spOneM) :
    NOk P w K mg base CX0 2 f F ["held", "letter"] ["letters", "cap", "modulus"] spStep := by
  obtain ⟨nm, qual, params, body, scope, cl, c⟩ := F
  dsimp only at hs hp hbd
  subst hs
  subst hp
  subst hbd
  refine nokC_of (N := NSt) scSt (fun doc pm ctv us hl => ?_) (fun ws vs H Q E h => ?_) (fun A outer s H vs ws Q E hr hw h => ?_)
  · obtain ⟨a, b, rfl⟩ : ∃ a b, us = [a, b] := by
      match us, hl with
      | [a, b], _ => exact ⟨a, b, rfl⟩
    rfl
  · obtain ⟨b, L, a, c, cap, md, _, rfl, _⟩ := h
    rfl
  · obtain ⟨b, L, a, c, cap, md, rfl, rfl, hb, hl, hL, q⟩ := h
    refine ⟨_, pss_one (ps_ret (pe_callTy call_tuple_of (by rfl) T.tuple (by decide +kernel) (pa_cons (pe_lc (own := [("number", 6), ("sign", 5)]) (g := gTup K 2 (gCons (gName 5) (gCons (gName 6) gNil))) (tt := tYes)
        (te := tIf (tTest (tOp rEq (tVar 5) (tVar 1))) (tCall spOneM [] E0 (tCons (tVar 6) (tCons (tVar 3) (tCons (tVar 4) tNil)))) (tVar 6)) rfl scSt.nd (ZPT.pi_zipST rfl T.zip (pa_cons (pv 2) (pa_cons (pv 0) pa_nil)))
        (blkOk_by (own := [("number", 6), ("sign", 5)]) (N := NSt) (sc := C8.fnScope sStep) (by decide +kernel)) (fun _ _ _ _ _ => pg_tup (by rfl) (pgs_cons (pg_name (i := 5) scSt.nd rfl (Or.inl rfl)) (pgs_cons (pg_name (i := 6) scSt.nd rfl (Or.inl rfl)) pgs_nil))) (fun _ _ _ _ _ => pts_nil)
        (fun _ _ _ _ _ => pe_ifExp (pt_cmpR op_eq (pv 5) (pv 1) (nomark _)) (pe_call GO hr rfl AO.g AO.F.kp AO.b .nil pass0 (pa_cons (pv 6) (pa_cons (pv 3) (pa_cons (pv 4) pa_nil)))) (pv 6))) pa_nil))), ?_⟩
    refine ⟨_, rfl, _, rfl, _, b, _, rfl, SqT.of hb, fun D hD => ?_⟩
    have hz : (tx L).cps.size = (a.map V.int).length := by rw [size_tx, List.length_map, hl]
    refine lc_it (ZPT.walk_st hz) (fun i H3 => Same H H3 ∧ H3 D = some (.lst (((cntF L cap md a c).take i).map V.int))) ⟨same_upd hD, upd_same⟩ (fun i H3 _ ⟨s3, _⟩ => SqT.of (s3 _ _ hb)) ?_ ?_
    · rintro i x H3 H4 hi ⟨s3, hd⟩ ⟨T2, y, z, rfl, hT2, rfl, hy, hz2⟩
      rw [size_tx] at hi
      have hia : i < a.length := by omega
      have hy' : y = .str (sg L[i]) := by
        have : (tx L).cps[i]? = some L[i] := by rw [← Array.getElem?_toList, tx_list, List.getElem?_eq_getElem hi]
        have hy2 : Option.map (fun c => V.str ⟨#[c]⟩) ((tx L).cps[i]?) = some y := hy
        rw [this] at hy2
        exact (Option.some.inj hy2).symm
      have hz' : z = .int a[i] := by
        have hz3 : (a.map V.int)[i]? = some z := hz2
        rw [List.getElem?_map, List.getElem?_eq_getElem hia] at hz3
        exact (Option.some.inj hz3).symm
      subst hy'
      subst hz'
      have s4 : Same H3 (upd H3 T2 (.tup [.str (sg L[i]), .int a[i]])) := same_upd hT2
      have tk : (cntF L cap md a c).take (i + 1) = (cntF L cap md a c).take i ++ [if L[i] = c then oneM cap md a[i] else a[i]] := by
        rw [List.take_add_one]
        congr 1
        unfold cntF
        rw [List.getElem?_map, List.getElem?_eq_getElem (by rw [List.length_zip]; omega)]
        simp
      have fewD : (((cntF L cap md a c).take i).map V.int).length < sizeLine := by
        rw [List.length_map, List.length_take, sizeLine_eq]
        omega
      refine ⟨T2, _, rfl, SqT.of upd_same, rfl, _, _, rfl, _, _, rfl, rfl, rfl, _, rfl, _, rfl, rfl, ?_⟩
      have hd4 := s4 _ _ hd
      have done : ∀ y, y = V.int (if L[i] = c then oneM cap md a[i] else a[i]) → Same H (upd (upd H3 T2 (.tup [.str (sg L[i]), .int a[i]])) D (.lst (((cntF L cap md a c).take i).map V.int ++ [y]))) ∧ upd (upd H3 T2 (.tup [.str (sg L[i]), .int a[i]])) D (.lst (((cntF L cap md a c).take i).map V.int ++ [y])) D = some (.lst (((cntF L cap md a c).take (i + 1)).map V.int)) := fun y e => by
        refine ⟨same_at (s3.trans s4) hD, ?_⟩
        rw [upd_same, tk, List.map_append, e] <;> rfl
      by_cases hc : L[i] = c
      · refine ⟨true, congrArg V.bl (decide_eq_true (by rw [hc])), ?_⟩
        refine ⟨_, rfl, _, rfl, _, rfl, _, _, _, rfl, _, hd4, fewD, done _ ?_⟩
        rw [if_pos hc]
      · refine ⟨false, congrArg V.bl (decide_eq_false fun z => hc (TX.sg_inj (V.str.inj z))), ?_⟩
        refine ⟨_, rfl, _, hd4, fewD, done _ ?_⟩
        rw [if_neg hc]
    · rintro H3 ⟨s3, hd⟩
      rw [size_tx, List.take_of_length_le (Nat.le_of_eq (cnt_len L cap md a c hl))] at hd
      refine ⟨D, _, rfl, .inl ⟨SqL.of hd, fun t ht => ?_⟩⟩
      exact q t _ (s3.free ht) (s3.trans (same_upd ht)) upd_same
/-- the tables of code objects, as the rules of nested defs tell them -/
abbrev nTabs (T : List (Addr × Str)) : List NTab := T.map fun p => (p.1, fun _ _ => p.2)
theorem tabsN_of {T : List (Addr × Str)} {H : Hp} (t : Tabs T H) : TabsN (nTabs T) H := fun p hp => by
  obtain ⟨q, hq, rfl⟩ := List.mem_map.mp hp
  exact TabN.of (t q hq)
theorem tabs_ofN {T : List (Addr × Str)} {H : Hp} (t : TabsN (nTabs T) H) : Tabs T H := fun p hp => TabN.to (t (p.1, fun _ _ => p.2) (List.mem_map.mpr ⟨p, hp, rfl⟩))
theorem steps_cnt {f : Addr} {F : NF} {cs : Cs} {B : Nat} {L : W} {cap md : Int} {H : Hp} {b0 : Addr} (o : NOk P w K mg base CX0 2 f F ["held", "letter"] ["letters", "cap", "modulus"] spStep) (ft : Fits F.cl ["letters", "cap", "modulus"] cs [.str (tx L), .int cap, .int md])
    (h1 : H f = some (FnO f F)) (h2 : H F.c = some (CodeO F.c F.qual)) (l : Lay cs H) (h0 : H b0 = some (.tup ((zeros L).map V.int))) (hL : L.length ≤ 3) (hB : ∀ j, (exAll (cntF L cap md) L (zeros L) j).1.length ≤ B) (hB4 : B ≤ 400) :
    Steps P w K mg base kitI 2 H L (.ref b0) f (zeros L) (cntF L cap md) B := by
  refine ⟨_, _, fun a => a.length = L.length, kitI_is.mpr h0, callV_nok o cxon_0 ft, ⟨h1, h2, l⟩, fun H H' k ⟨a, b, c⟩ => ⟨k _ _ a, k _ _ b, fun p hp => k _ _ (c p hp)⟩, List.length_map _, fun a c h _ => cnt_len L cap md a c h, fun H v a c Q ⟨_, _, l⟩ hv ha hc q => ?_, hB, hB4⟩
  obtain ⟨b1, e1, hb0⟩ := hv
  subst e1
  have hb1 := kitI_is.mp ⟨b1, rfl, hb0⟩
  refine ⟨b1, L, a, c, cap, md, rfl, rfl, off_keep l hb1 (fun _ z => nomatch z), ha, hL, fun t H' _ s ht n => ?_⟩
  exact q _ _ (same_on l ft.nd s n) (kitI_is.mpr (on_keep n ht))
def spCounting (T : List (Addr × Str)) (cD : Addr) : Sp := fun vs H Q _ => ∃ (L : W) (cap md : Int) (B : Nat), vs = [.str (tx L), .int cap, .int md] ∧ L.length ≤ 3 ∧ Tabs T H ∧ (∀ j, (exAll (cntF L cap md) L (zeros L) j).1.length ≤ B) ∧ B ≤ 400 ∧
  ∀ g H', H g = none → Grows T H H' → MadeAt cD H' g (exAll (cntF L cap md) L (zeros L) B).2 → Q (.ref g) H'
abbrev NCo : List Str := ["letters", "cap", "modulus", "step", "_"]
theorem scCn : FnScope NCo ["letters", "cap", "modulus"] (defScope sCount) := ⟨rfl, rfl, rfl, by decide +kernel, rfl, by decide +kernel, by decide +kernel⟩
theorem capS : ∀ y ∈ (C8.fnScope sStep).names, y.2 = .free → (defScope sCount).names.lookup y.1 = some .cell ∨ (defScope sCount).names.lookup y.1 = some .free := by decide +kernel
theorem ok_counting {f cN PN fG fO : Addr} {dG dO : FuncData} {C cD : Addr} {T : List (Addr × Str)} {oc kV dc pm ct dV : Value} {an od : Option Addr} {sl : Array (Option Value)} (lk : K.lookup f = some ⟨oc, od, .func (PySem.W.fnOf "_counting" "_counting" (defArgs sCount) (defBody sCount) (defScope sCount) dV kV dc pm an (.ref cN) ct), sl⟩) (hcd : PySem.W.codeIn K (.ref cN) "_counting" = true)
    (TB : TabB base mg cN PN) (mem : (PN, qStep) ∈ T) (uniq : ∀ p ∈ T, p.1 = PN → p.2 = qStep) (TT : TN mg) (AO : Fn K mg "_one_more" sOneM ["number", "cap", "modulus"] fO dO) (GO : FnOk P w K mg base CX0 1 fO dO ["number", "cap", "modulus"] spOneM)
    (AG : Fn K mg "_grown" sGrown ["letters", "start", "step"] fG dG) (GG : FnOk P w K mg base CX0 5 fG dG ["letters", "start", "step"] (spGrown P w K mg base kitI 2 cD)) :
    FnOk P w K mg base CX0 6 f (PySem.W.fnOf "_counting" "_counting" (defArgs sCount) (defBody sCount) (defScope sCount) dV kV dc pm an (.ref cN) ct) ["letters", "cap", "modulus"] (spCounting T cD) := by
  refine fn_of lk hcd scCn (fun vs H Q E h => ?_) (fun A outer s H vs Q E hr h => ?_)
  · obtain ⟨L, cap, md, B, rfl, _⟩ := h
    rfl
  · obtain ⟨L, cap, md, B, rfl, hL, tabs, hB, hB4, q⟩ := h
    refine ⟨_, pss_cons (ps_ndefMS (T := nTabs T) (nm := fun _ _ => qStep) (i := 3) rfl TB rfl (List.mem_map.mpr ⟨_, mem, rfl⟩) rfl (fun p hp e => by
          obtain ⟨q, hq, rfl⟩ := List.mem_map.mp hp
          show (fun _ _ => q.2) = _
          rw [uniq q hq e]) capS rfl rfl rfl scCn.nd rfl (Or.inl rfl) (Or.inl rfl))
      (pss_one (ps_ret (pe_callC (fr := ["letters", "cap", "modulus"]) (js := [0, 1, 2]) GG hr rfl AG.g AG.F.kp AG.b (fun ok => Caps.made (scope := C8.fnScope sStep) ok capS (by decide +kernel) rfl)
          (fun y c h => by
            rcases clo_only h with z | z
            · have : ∀ p ∈ (C8.fnScope sStep).names, p.2 = .free → p.1 ∈ (["letters", "cap", "modulus"] : List Str) := by decide +kernel
              exact this _ z rfl
            · cases z) (by decide +kernel) (fun _ _ => rfl)
          (pa_cons (pv 0) (pa_cons (pe_callTy call_tuple_of (by rfl) TT.tuple (by decide +kernel) (pa_cons (pe_lc (own := [("_", 4)]) (g := gName 4) (tt := tYes) (te := tC (.int 0)) rfl scCn.nd (pi_str (pv 0))
            (blkOk_by (own := [("_", 4)]) (N := NCo) (sc := defScope sCount) (by decide +kernel)) (fun _ _ _ _ _ => pg_name (i := 4) scCn.nd rfl (Or.inl rfl)) (fun _ _ _ _ _ => pts_nil) (fun _ _ _ _ _ => pe_int)) pa_nil)) (pa_cons (pv 3) pa_nil)))))), ?_⟩
    refine ⟨tabsN_of tabs, fun f c' H1 e1 back t1 nf hf hc => ?_⟩
    have g1 : Grows T H H1 := ⟨e1, tabs_ofN t1, back⟩
    refine ⟨_, rfl, _, rfl, tx L, rfl, fun D hD => ?_⟩
    refine lc_it walk_str (fun i H3 => Same H1 H3 ∧ H3 D = some (.lst ((zeros (L.take i)).map V.int))) ⟨same_upd hD, upd_same⟩ (fun _ _ _ _ => trivial) ?_ ?_
    · rintro i x H3 H4 hi ⟨s3, hd⟩ ⟨rfl, y, hy, rfl⟩
      have hy' : L[i]? = some y := by
        rw [← Array.getElem?_toList, tx_list] at hy
        exact hy
      refine ⟨rfl, _, hd, ?_, same_at s3 hD, ?_⟩
      · rw [List.length_map, List.length_map, List.length_take, sizeLine_eq]
        omega
      · rw [upd_same, List.take_add_one, hy']
        show _ = some (HO.lst (((L.take i ++ [y]).map fun _ => (0 : Int)).map V.int))
        rw [List.map_append, List.map_append] <;> rfl
    · rintro H3 ⟨s3, hd⟩
      rw [size_tx, List.take_length] at hd
      refine ⟨D, _, rfl, .inl ⟨SqL.of hd, fun t ht => ?_⟩⟩
      have s4 := same_upd (o := .tup ((zeros L).map V.int)) ht
      have g4 : Grows T H (upd H3 t (.tup ((zeros L).map V.int))) := grows_same (grows_same g1 s3) s4
      have a4 : (upd H3 t (.tup ((zeros L).map V.int))) t = some (.tup ((zeros L).map V.int)) := upd_same
      have hf4 := s4 _ _ (s3 _ _ hf)
      have hc4 := s4 _ _ (s3 _ _ hc)
      generalize upd H3 t (.tup ((zeros L).map V.int)) = H4 at g4 a4 hf4 hc4 ⊢
      refine ⟨_, rfl, [.str (tx L), .int cap, .int md], rfl, fun cs ft none_ => ?_⟩
      refine ⟨L, .ref t, zeros L, f, cntF L cap md, B, rfl, hL, steps_cnt (nok_step rfl rfl rfl TT AO GO) ft (on_keep none_ hf4) (on_keep none_ hc4) (onn_lay ft.nd) (on_keep none_ a4) hL hB hB4, fun g H5 ng s5 mk => ⟨lay_same ft.nd s5, ?_⟩⟩
      have l5 := lay_same ft.nd s5
      have s6 := same_off none_ s5
      have mk6 := madeAt_off l5 mk
      have ng4 : H4 g = none := by
        by_cases z : g ∈ cs.map (·.1)
        · obtain ⟨p, hp, rfl⟩ := List.mem_map.mp z
          exact none_ p hp
        · rw [onn_out z] at ng
          exact ng
      exact q g _ (g4.2.2 g ng4) (grows_same g4 s6) mk6
/-- what the makers of boxes that count ask and give -/
def CntBox (T : List (Addr × Str)) (C : Addr) (L : W) (cap md : Int) (H : Hp) (Q : VK) : Prop := Let L ∧ Tabs T H ∧ ∃ B, (∀ j, (exAll (cntF L cap md) L (zeros L) j).1.length ≤ B) ∧ B ≤ 400 ∧ ∀ o H', H o = none → Grows T H H' → BoxAt C H' o L (exAll (cntF L cap md) L (zeros L) B).2 → Q (.ref o) H'
section
variable {C cD fNL fNN fG fB : Addr} {dNL dNN dG dB : FuncData} {T : List (Addr × Str)}
/-- rows were made, a box of them is made -/
theorem box_made {H H1 : Hp} {L : W} {tb : List (List Int)} {g : Addr} {Q : VK} (hL : Let L) (gr : Grows T H H1) (mk : MadeAt cD H1 g tb) (q : ∀ o H', H o = none → Grows T H H' → BoxAt C H' o L tb → Q (.ref o) H') :
    ∀ x dx, H1 x = none → H1 dx = none → dx ≠ x → spBoxI C cD [.ref x, .str (tx L), .ref g] (upd (upd H1 dx (.own x)) x (.ins C dx [])) (fun v H' => v = .non ∧ Q (.ref x) H') E0 := by
  intro x dx hx hdx ne
  have s5 : Same H1 (upd (upd H1 dx (.own x)) x (.ins C dx [])) := fun b o z => by rw [upd_ne (ne_of_none z hx), upd_ne (ne_of_none z hdx)]; exact z
  refine ⟨x, dx, L, g, _, rfl, hL, upd_same, fun z => ?_, mk.same s5, fun r H6 h6 k6 rows => ⟨rfl, ?_⟩⟩
  · obtain ⟨gx, r, e, _⟩ := mk
    rw [z, hx] at e
    cases e
  · have s6 : Same H1 H6 := fun b o z => k6 b o (s5 _ _ z) (ne_of_none z hx)
    exact q x H6 (gr.2.2 x hx) (grows_same gr s6) ⟨dx, r, h6, rows⟩
end
end
end WK
set_option Elab.async false
set_option linter.all false
set_option maxRecDepth 100000
set_option maxHeartbeats 8000000
namespace OWN
open PySem PySem.Spec L2 PyProof.Rows
/-- an instance that stands in H -/
theorem inst_at {X : Cx} {pins : List (Addr × Obj)} {σ : L2.St} {H : Hp} {s : Shared} {a C dx : Addr} {fs : List (Str × V)} (I : Inv X pins σ H s) (at_ : H a = some (.ins C dx fs)) : ∃ od : Obj, PySem.W.InstAt s.heap a (PySem.W.instObj C dx) C (some od) :=
  let ⟨_, j, _⟩ := ins_get I.hok at_
  let ⟨od, k, _⟩ := j.look
  ⟨od, k⟩
section
variable {X : Cx} {C g : Addr} {n : Nat} {sp : Sp}
def rLenO (C : Addr) (sp : Sp) : List V → Hp → VK → Prop := fun xs H Q => ∃ a dx fs, xs = [.ref a] ∧ H a = some (.ins C dx fs) ∧ sp [.ref a] H (fun z H' => ∃ k : Nat, z = .int k ∧ (k : Int) < 2 ^ 62 ∧ Q z H') E0
theorem call_lenO (hs : PySem.W.findIn X.K (.ref C) "__len__" = some (some (.ref g))) (hf : PySem.W.isFn X.K (.ref g) = true) (F : FnR X.prog X.w X.K X.mg X.base CX0 n g sp) (hr : Room (n + 1) X.A) : CallR X (.builtin "len") (rLenO C sp) := by
  intro _ s _ _ _ _ _ I r ⟨a, dx, fs, ex, ha, q⟩
  subst ex
  obtain ⟨u, rfl, ru⟩ := r.one
  obtain rfl : u = .ref a := ru
  obtain ⟨od, J⟩ := inst_at I ha
  obtain ⟨m, hF⟩ := I.fr
  refine PySem.W.len_K hF I.ok.mod.kin J hs hf (wpAny_mono (wpAny_call (SlX.run_at (us := [.ref a]) (ws := [.ref a]) F (Room.in1 hr) I.env0.in1 pass0 I (.cons rfl .nil) q)) (fun w s' z => ?_) fun _ _ x => x)
  obtain ⟨z', H', I', rz, k, ez, hk, qz⟩ := z
  subst ez
  obtain ⟨t, e⟩ := (show ∃ t, w = Value.int k t from rz)
  cases e
  exact ⟨⟨by omega, by omega⟩, .int k, H', I'.tok _, ⟨_, rfl⟩, qz⟩
end
end OWN
set_option Elab.async false
set_option linter.all false
set_option maxRecDepth 100000
set_option maxHeartbeats 8000000
namespace WK
open PySem L2 PyProof.Rows LCX K1 FV DP LamX NdefX NCX
open TX (sg sigs)
open PySem.W (Frag kitOne)
abbrev sBGet : Stmt := inClass (top 63) 7
abbrev sBCall : Stmt := inClass (top 63) 9
abbrev sBLen : Stmt := inClass (top 63) 16
theorem bfl_L {l t : V} : (bfl l t).lookup ("_letters" : Str) = some l := by
  show (match (("_letters" : Str) == ("_table" : Str)) with | true => some t | false => (([(("_letters" : Str), l)] : List (Str × V)).lookup ("_letters" : Str))) = some l
  rw [show (("_letters" : Str) == ("_table" : Str)) = false from by decide +kernel]
  rfl
theorem bfl_T {l t : V} : (bfl l t).lookup ("_table" : Str) = some t := rfl
/-- what is known of the class Box beside its makers -/
structure TBy (K : Frag) (C : Addr) : Prop where
  is : SlX.SIsi K C
  kC : kitOne K (.ref C) (.ref C) = some true
def spBLen (C : Addr) : Sp := fun vs H Q _ => ∃ (o : Addr) (L : W) (tb : List (List Int)), vs = [.ref o] ∧ BoxAt C H o L tb ∧ Q (.int (tb.length : Int)) H
section
variable {P : Program} {w : World} {K : PySem.W.Frag} {mg : Str → Option Value} {base : Heap} {C cD fNW fNO fL fB fD fT : Addr} {dNW dNO dL dB dD dT : FuncData}
theorem scBN : FnScope ["self"] ["self"] (defScope sBLen) := ⟨rfl, rfl, rfl, by decide +kernel, rfl, by decide +kernel, by decide +kernel⟩
theorem ok_blen {f : Addr} {fd : FuncData} (F : Fun K "__len__" "Box.__len__" sBLen f fd) (T : TN mg) (M : TBx K mg C cD) : FnOk P w K mg base CX0 1 f fd ["self"] (spBLen C) := by
  refine F.ok scBN (fun vs H Q E h => ?_) (fun cdv A outer s H vs Q E hr h => ?_)
  · obtain ⟨o, _, _, rfl, _⟩ := h
    rfl
  · obtain ⟨o, L, tb, rfl, ⟨dx, r, h1, ts, h2, h3⟩, q⟩ := h
    refine ⟨_, pss_one (ps_ret (pe_callB call_len_seq (by rfl) T.len PySem.boot_len (pa_cons (pe_fld (pv 0) rfl) pa_nil))), ?_⟩
    refine ⟨_, rfl, o, C, dx, _, _, rfl, h1, M.cl, M.nT, bfl_T, r, _, rfl, .inr (SqT.of h2), ?_⟩
    rw [List.length_map, h3.len]
    exact q
end
end WK
set_option Elab.async false
set_option linter.all false
set_option maxRecDepth 100000
set_option maxHeartbeats 4000000
namespace RZ
open PySem
open PySem.Sem (wp)
section
variable {prog : Program} {w : World} {A : Around} {E : Value → Shared → Prop} {s : Shared}
/-- a zip of two tuples that holds the pair that it gave before, asked once more: the next pair while the first tuple has an item, its end after that -/
theorem held_asked {z TI TO T i1 i2 l1 l2 : Addr} {f : Bool} {old : Obj} {m n : Nat} {us vs : Array Value} {Q : Fin → Shared → Prop} (D : ZipApart z TI TO i1 i2 l1 l2)
    (isZ : IsZipHeld s.heap z TI TO T f) (oldAt : s.heap.get? T = some old) (its : IsPair s.heap TI (.ref i1) (.ref i2)) (w1 : s.heap.IsTupleIter i1 l1 m) (w2 : s.heap.IsTupleIter i2 l2 n)
    (t1 : s.heap.IsTuple l1 us) (t2 : s.heap.IsTuple l2 vs) (both : ∀ u, us[m]? = some u → ∃ v, vs[n]? = some v)
    (pair : ∀ u v, us[m]? = some u → vs[n]? = some v → ∀ g, IsZipHeld g z TI TO T true → g.IsTupleIter i1 l1 (m + 1) → g.IsTupleIter i2 l2 (n + 1) → IsPair g s.heap.objs.size u v → g.objs.size = s.heap.objs.size + 1 →
      (∀ b q, b ≠ z → b ≠ i1 → b ≠ i2 → s.heap.get? b = some q → g.get? b = some q) → Q (.done (.ret (.ref s.heap.objs.size))) { s with heap := g })
    (over : us[m]? = none → A.handled = none ∧ ∀ g err, (∀ b q, b ≠ z → b ≠ i1 → b ≠ i2 → s.heap.get? b = some q → g.get? b = some q) → (∃ q, g.get? err = some q ∧ q.cls = .type "StopIteration") → E (.ref err) { s with heap := g }) :
    wpAny (model prog w) A (Builtin.«zip.__next__» ⟨[.ref z], []⟩) Q E s := by
  refine wpAny_bind (m := field (.ref z) 2) (wpAny_field isZ rfl (x := .bool false) rfl ?_)
  refine wpAny_bind (m := field (.ref z) 3) (wpAny_field isZ rfl (x := .ref TI) rfl (wpAny_bind (wpAny_seqItems its rfl ?_)))
  refine wpAny_bind (m := Builtin.SmallTypes.ownedTupleIsFree (.ref z)) (wpAny_tupleHeld_zip isZ oldAt fun g1 z1 same1 => ?_)
  simp only [← Array.forIn_toList, List.forIn_cons, List.forIn_nil, Bool.false_eq_true, if_false]
  have v1 := w1.extBut same1.extBut D.i1z
  have y1 := t1.extBut same1.extBut D.l1z
  refine wpAny_bind (wpAny_bind (wpAny_bind (wpAny_holding (wpAny_bind (m := Builtin.SmallTypes.nextOf (.ref i1)) ?_))))
  cases look : us[m]? with
  | none =>
    obtain ⟨calm, over⟩ := over look
    exact nextOf_tuple_end (s := { s with heap := g1 }) calm v1 y1 look fun g err keep isStop => over g err (fun b q bz b1 _ at_b => keep _ _ b1 (same1.extBut _ _ bz at_b)) isStop
  | some u =>
    obtain ⟨v, look2⟩ := both u look
    refine nextOf_tuple_item (s := { s with heap := g1 }) v1 y1 look fun g2 v1' same2 => wpAny_pure (wpAny_pure ?_)
    refine wpAny_bind (wpAny_bind (wpAny_holding (wpAny_bind (m := Builtin.SmallTypes.nextOf (.ref i2)) ?_)))
    refine nextOf_tuple_item (s := { s with heap := g2 }) ((w2.extBut same1.extBut D.i2z).extBut same2.extBut D.i12.symm) ((t2.extBut same1.extBut D.l2z).extBut same2.extBut D.l2i1) look2 fun g3 v2' same3 => ?_
    refine wpAny_pure (wpAny_pure (wpAny_pure (wpAny_bind (m := newTuple [u, v]) (wpAny_newTuple ?_))))
    have size3 : g3.objs.size = s.heap.objs.size := same3.1.trans (same2.1.trans same1.1)
    refine wpAny_pure ?_
    show Q (.done (.ret (.ref g3.objs.size))) _
    have made : IsPair (g3.push { cls := .type "tuple", data := .seq #[u, v] }) g3.objs.size u v := Heap.get?_push_size _ rfl
    have grown : (g3.push { cls := .type "tuple", data := .seq #[u, v] }).objs.size = g3.objs.size + 1 := Heap.size_push ..
    rw [size3] at made grown ⊢
    refine pair u v look look2 _ (Heap.get?_push_of_some _ (same3.extBut _ _ D.i2z.symm (same2.extBut _ _ D.i1z.symm z1))) ((v1'.extBut same3.extBut D.i12).at fun o at_b => Heap.get?_push_of_some _ at_b)
      (v2'.at fun o at_b => Heap.get?_push_of_some _ at_b) made grown fun b q bz b1 b2 at_b => ?_
    exact Heap.get?_push_of_some _ (same3.extBut _ _ b2 (same2.extBut _ _ b1 (same1.extBut _ _ bz at_b)))
/-- where zip stands, i pairs out -/
def ZS (h : Heap) (z TI TO i1 i2 l1 l2 : Addr) (i : Nat) : Prop := IsPair h TI (.ref i1) (.ref i2) ∧ h.IsTupleIter i1 l1 i ∧ h.IsTupleIter i2 l2 i ∧
  ((IsZip h z TI TO .none ∧ ∃ a b, IsPair h TO a b) ∨ ∃ T f oT, IsZipHeld h z TI TO T f ∧ h.get? T = some oT)
theorem ZS.typeIs {z TI TO i1 i2 l1 l2 : Addr} {i : Nat} (h : ZS s.heap z TI TO i1 i2 l1 l2 i) : s.TypeIs (.ref z) "zip" := by
  obtain ⟨_, _, _, ⟨h, _⟩ | ⟨T, f, oT, h, _⟩⟩ := h
  · exact ⟨_, h, rfl⟩
  · exact ⟨_, h, rfl⟩
theorem ZS.keep {h h' : Heap} {z TI TO i1 i2 l1 l2 S : Addr} {i : Nat} (x : ZS h z TI TO i1 i2 l1 l2 i) (hS : ∃ acc c, h.get? S = some { cls := .type "list", dict := none, data := .seq acc c, slots := #[] })
    (k : ∀ b o, b ≠ S → h.get? b = some o → h'.get? b = some o) (kS : ∃ o, h'.get? S = some o) : ZS h' z TI TO i1 i2 l1 l2 i := by
  obtain ⟨acc, c, hS⟩ := hS
  obtain ⟨h1, ⟨o2, h2, c2, r2⟩, ⟨o3, h3, c3, r3⟩, h4⟩ := x
  have ne : ∀ b o, h.get? b = some o → o.cls ≠ .type "list" → b ≠ S := fun b o e q z => by
    rw [z, hS] at e
    cases e
    exact q rfl
  refine ⟨k _ _ (ne _ _ h1 (fun z => by simp at z)) h1, ⟨o2, k _ _ (ne _ _ h2 (by rw [c2]; simp)) h2, c2, r2⟩, ⟨o3, k _ _ (ne _ _ h3 (by rw [c3]; simp)) h3, c3, r3⟩, ?_⟩
  rcases h4 with ⟨h4, a, b, h5⟩ | ⟨T, f, oT, h4, h5⟩
  · exact .inl ⟨k _ _ (ne _ _ h4 (fun z => by simp at z)) h4, a, b, k _ _ (ne _ _ h5 (fun z => by simp at z)) h5⟩
  · by_cases hT : T = S
    · obtain ⟨o, kS⟩ := kS
      exact .inr ⟨T, f, o, k _ _ (ne _ _ h4 (fun z => by simp at z)) h4, by rw [hT]; exact kS⟩
    · exact .inr ⟨T, f, oT, k _ _ (ne _ _ h4 (fun z => by simp at z)) h4, k _ _ hT h5⟩
end
end RZ
set_option Elab.async false
set_option linter.all false
set_option maxRecDepth 100000
set_option maxHeartbeats 8000000
namespace ZQT
open PySem PySem.Spec PyProof.Rows L2 RZ
section
variable {prog : Program} {w : World} {A : Around} {E : Value → Shared → Prop} {s : Shared}
/-- where it stands, i pairs out, the first of them l -/
structure At (a b z TI TO i1 i2 : Addr) (i : Nat) (l : Option Addr) (h : Heap) : Prop where
  ti : IsPair h TI (.ref i1) (.ref i2)
  to : ∃ p q, IsPair h TO p q
  it1 : h.IsTupleIter i1 a i
  it2 : h.IsTupleIter i2 b i
  none_ : l = none → IsZip h z TI TO .none
  some_ : ∀ T, l = some T → ∃ f, IsZipHeld h z TI TO T f
theorem At.obj {a b z TI TO i1 i2 : Addr} {i : Nat} {l : Option Addr} {h : Heap} (x : At a b z TI TO i1 i2 i l h) : ∀ c ∈ [z, TI, TO, i1, i2], ∃ o, h.get? c = some o ∧ ∀ v, o.data ≠ .cell v := by
  obtain ⟨h1, ⟨p, q, h2⟩, ⟨o3, e3, _, d3⟩, ⟨o4, e4, _, d4⟩, h5, h6⟩ := x
  intro c hc
  have hc' : c = z ∨ c = TI ∨ c = TO ∨ c = i1 ∨ c = i2 := by simpa using hc
  rcases hc' with y | y | y | y | y
  · rw [y]
    cases l with
    | none => exact ⟨_, h5 rfl, fun v q => nomatch q⟩
    | some T =>
      obtain ⟨f, q⟩ := h6 T rfl
      exact ⟨_, q, fun v q => nomatch q⟩
  · rw [y]
    exact ⟨_, h1, fun v q => nomatch q⟩
  · rw [y]
    exact ⟨_, h2, fun v q => nomatch q⟩
  · rw [y]
    exact ⟨o3, e3, fun v q => nomatch d3.symm.trans q⟩
  · rw [y]
    exact ⟨o4, e4, fun v q => nomatch d4.symm.trans q⟩
theorem At.keep {a b z TI TO i1 i2 : Addr} {i : Nat} {l : Option Addr} {h h' : Heap} (x : At a b z TI TO i1 i2 i l h) (k : ∀ c ∈ [z, TI, TO, i1, i2], ∀ o, h.get? c = some o → h'.get? c = some o) : At a b z TI TO i1 i2 i l h' :=
  ⟨k TI (by simp) _ x.ti, let ⟨p, q, e⟩ := x.to; ⟨p, q, k TO (by simp) _ e⟩, x.it1.at fun o e => k i1 (by simp) o e, x.it2.at fun o e => k i2 (by simp) o e, fun e => k z (by simp) _ (x.none_ e), fun T e => let ⟨f, q⟩ := x.some_ T e; ⟨f, k z (by simp) _ q⟩⟩
theorem At.typeIs {a b z TI TO i1 i2 : Addr} {i : Nat} {l : Option Addr} (x : At a b z TI TO i1 i2 i l s.heap) : s.TypeIs (.ref z) "zip" := by
  cases l with
  | none => exact ⟨_, x.none_ rfl, rfl⟩
  | some T =>
    obtain ⟨f, q⟩ := x.some_ T rfl
    exact ⟨_, q, rfl⟩
theorem item {a b z TI TO i1 i2 : Addr} {i : Nat} {l : Option Addr} {xs ys : Array Value} {x y : Value} {Q : Option Value → Shared → Prop} (D : ZipApart z TI TO i1 i2 a b) (st : At a b z TI TO i1 i2 i l s.heap) (old : ∀ T, l = some T → ∃ o, s.heap.get? T = some o ∧ T ∉ [z, TI, TO, i1, i2])
    (ha : s.heap.IsTuple a xs) (hb : s.heap.IsTuple b ys) (hx : xs[i]? = some x) (hy : ys[i]? = some y)
    (hQ : ∀ g, At a b z TI TO i1 i2 (i + 1) (some (l.getD s.heap.objs.size)) g → IsPair g s.heap.objs.size x y → (∀ c o, c ≠ z → c ≠ TO → c ≠ i1 → c ≠ i2 → s.heap.get? c = some o → g.get? c = some o) → Q (some (.ref s.heap.objs.size)) { s with heap := g }) :
    wpAny (model prog w) A (pyNext (.ref z)) Q E s := by
  have isTy := st.typeIs
  obtain ⟨h1, ⟨p, q, h2⟩, h3, h4, h5, h6⟩ := st
  cases l with
  | none =>
    refine pyNext_zipT_item D (h5 rfl) h1 h2 h3 h4 ha hb hx hy fun g z' TO' w1 w2 made _ keep => hQ g ⟨keep _ _ D.TIz D.TITO D.TIi1 D.TIi2 h1, ⟨_, _, TO'⟩, w1, w2, (fun e => nomatch e), fun T e => ?_⟩ made keep
    cases e
    exact ⟨false, z'⟩
  | some T =>
    obtain ⟨f, held⟩ := h6 T rfl
    obtain ⟨oT, atT, nT⟩ := old T rfl
    unfold pyNext
    refine wpAny_bind (wpAny_attempt (wpAny_callSpecial?_slot (name := Str.ofString "__next__") isTy F.slot_zip_next (wpAny_call_entry F.slot_zip_next isTy F.entry_zip_next ?_ (F.args_zip_next_1 _))))
    refine held_asked D held atT h1 h3 h4 ha hb (fun _ _ => ⟨y, hy⟩) (fun u v hu hv g z' w1 w2 made _ keep => ?_) (fun no => nomatch hx.symm.trans no)
    cases hx.symm.trans hu
    cases hy.symm.trans hv
    refine ⟨_, rfl, wpAny_pure (hQ g ⟨keep _ _ D.TIz D.TIi1 D.TIi2 h1, ⟨p, q, keep _ _ D.TOz D.TOi1 D.TOi2 h2⟩, w1, w2, (fun e => nomatch e), fun T' e => ?_⟩ made fun c o cz _ c1 c2 e => keep c o cz c1 c2 e)⟩
    cases e
    exact ⟨true, z'⟩
end
end ZQT
set_option Elab.async false
set_option linter.all false
set_option maxRecDepth 100000
set_option maxHeartbeats 8000000
namespace WK
open PySem L2 PyProof.Rows LCX K1 FV DP
open TX (sg sigs)
open PySem.W (Frag kitOne)
end WK
set_option Elab.async false
set_option linter.all false
set_option maxRecDepth 100000
set_option maxHeartbeats 4000000
namespace WK
open PySem PySem.Spec L2 PyProof.Rows K1
section
variable {α : Type} [DecidableEq α] {f : α → Nat → α} {L : W} {start : α}
theorem exSign_nd {key : α} {st : List α × List Int} {c : Nat} (h : st.1.Nodup) : (exSign f key st c).1.Nodup := by
  unfold exSign
  split
  · exact h
  · rename_i hn
    refine List.nodup_append.mpr ⟨h, List.nodup_cons.mpr ⟨List.not_mem_nil, List.nodup_nil⟩, fun x hx y hy z => ?_⟩
    rw [List.mem_singleton.mp hy] at z
    exact hn (z ▸ hx)
theorem exFold_nd {key : α} : ∀ {l : W} {st : List α × List Int}, st.1.Nodup → (l.foldl (exSign f key) st).1.Nodup
  | [], _, h => h
  | c :: l, _, h => exFold_nd (l := l) (exSign_nd h)
theorem exAll_cases (j : Nat) : (∃ key, (exAll f L start j).1[j]? = some key ∧ exAll f L start (j + 1) = ((L.foldl (exSign f key) ((exAll f L start j).1, [])).1, (exAll f L start j).2 ++ [(L.foldl (exSign f key) ((exAll f L start j).1, [])).2])) ∨
    ((exAll f L start j).1.length ≤ j ∧ exAll f L start (j + 1) = exAll f L start j) := by
  cases e : (exAll f L start j).1[j]? with
  | some key => exact .inl ⟨key, rfl, exAll_at e⟩
  | none =>
    have h := List.getElem?_eq_none_iff.mp e
    exact .inr ⟨h, exAll_stop h 1⟩
theorem exAll_nd : ∀ j, (exAll f L start j).1.Nodup
  | 0 => List.nodup_cons.mpr ⟨List.not_mem_nil, List.nodup_nil⟩
  | j + 1 => by
    rcases exAll_cases (f := f) (L := L) (start := start) j with ⟨key, _, e⟩ | ⟨_, e⟩
    · rw [e]
      exact exFold_nd (exAll_nd j)
    · rw [e]
      exact exAll_nd j
theorem exAll_grow (j : Nat) : (exAll f L start j).1 <+: (exAll f L start (j + 1)).1 ∧ (exAll f L start j).2 <+: (exAll f L start (j + 1)).2 := by
  rcases exAll_cases (f := f) (L := L) (start := start) j with ⟨key, _, e⟩ | ⟨_, e⟩
  · rw [e]
    exact ⟨exFold_grows f key L ((exAll f L start j).1, []), List.prefix_append _ _⟩
  · rw [e]
    exact ⟨List.prefix_refl _, List.prefix_refl _⟩
theorem exAll_pre (j : Nat) : ∀ m, (exAll f L start j).1 <+: (exAll f L start (j + m)).1 ∧ (exAll f L start j).2 <+: (exAll f L start (j + m)).2
  | 0 => ⟨List.prefix_refl _, List.prefix_refl _⟩
  | m + 1 => ⟨(exAll_pre j m).1.trans (exAll_grow (j + m)).1, (exAll_pre j m).2.trans (exAll_grow (j + m)).2⟩
theorem exAll_most {N : Nat} (h : (exAll f L start N).1.length ≤ N) (j : Nat) : (exAll f L start j).1.length ≤ N := by
  rcases Nat.le_total j N with a | a
  · have := (exAll_pre (f := f) (L := L) (start := start) j (N - j)).1.length_le
    rw [show j + (N - j) = N by omega] at this
    exact Nat.le_trans this h
  · have := exAll_stop h (j - N)
    rw [show N + (j - N) = j by omega] at this
    rw [this]
    exact h
theorem exAll_rows : ∀ j, (exAll f L start j).2.length = min j (exAll f L start j).1.length
  | 0 => by
    show 0 = min 0 1
    rfl
  | j + 1 => by
    have ih := exAll_rows j
    rcases exAll_cases (f := f) (L := L) (start := start) j with ⟨key, hk, e⟩ | ⟨h, e⟩
    · have hj := (List.getElem?_eq_some_iff.mp hk).1
      have hg := (exAll_grow (f := f) (L := L) (start := start) j).1.length_le
      have h2 : (exAll f L start (j + 1)).2.length = (exAll f L start j).2.length + 1 := by rw [e, List.length_append] <;> rfl
      rw [h2, ih]
      omega
    · rw [e, ih]
      omega
theorem idx_pre {a : α} {l m : List α} (h : a ∈ l) (p : l <+: m) : m.idxOf a = l.idxOf a := by
  obtain ⟨t, rfl⟩ := p
  rw [List.idxOf_append, if_pos h]
theorem fold_row (key : α) : ∀ (l : W) (st : List α × List Int), (l.foldl (exSign f key) st).2 = st.2 ++ l.map (fun c => (((l.foldl (exSign f key) st).1.idxOf (f key c) : Nat) : Int)) ∧ ∀ c ∈ l, f key c ∈ (l.foldl (exSign f key) st).1
  | [], st => ⟨(List.append_nil _).symm, fun c hc => (List.not_mem_nil hc).elim⟩
  | c :: l, st => by
    have one : f key c ∈ (exSign f key st c).1 ∧ (exSign f key st c).2 = st.2 ++ [(((exSign f key st c).1.idxOf (f key c) : Nat) : Int)] := by
      unfold exSign
      by_cases h : f key c ∈ st.1
      · rw [if_pos h]
        exact ⟨h, rfl⟩
      · rw [if_neg h]
        refine ⟨List.mem_append_right _ (List.mem_singleton.mpr rfl), ?_⟩
        show _ = st.2 ++ [(((st.1 ++ [f key c]).idxOf (f key c) : Nat) : Int)]
        rw [idx_end h]
    obtain ⟨ih1, ih2⟩ := fold_row key l (exSign f key st c)
    have pre := exFold_grows f key l (exSign f key st c)
    rw [List.foldl_cons]
    refine ⟨?_, fun d hd => ?_⟩
    · rw [ih1, one.2, List.append_assoc, List.map_cons, idx_pre one.1 pre] <;> rfl
    · rcases List.mem_cons.mp hd with rfl | z
      · exact pre.subset one.1
      · exact ih2 d z
/-- each row tells where the letters lead -/
theorem exAll_row : ∀ (j i : Nat) (r : List Int), (exAll f L start j).2[i]? = some r → ∃ key, (exAll f L start j).1[i]? = some key ∧ r = L.map (fun c => (((exAll f L start j).1.idxOf (f key c) : Nat) : Int)) ∧ ∀ c ∈ L, f key c ∈ (exAll f L start j).1
  | 0, i, r, h => by
    have : (exAll f L start 0).2 = [] := rfl
    rw [this] at h
    cases h
  | j + 1, i, r, h => by
    rcases exAll_cases (f := f) (L := L) (start := start) j with ⟨key, hk, e⟩ | ⟨_, e⟩
    · have pre := (exAll_grow (f := f) (L := L) (start := start) j).1
      have hj := (List.getElem?_eq_some_iff.mp hk).1
      have hl := exAll_rows (f := f) (L := L) (start := start) j
      rw [e] at h pre ⊢
      by_cases hi : i < (exAll f L start j).2.length
      · rw [List.getElem?_append_left hi] at h
        obtain ⟨k, k1, k2, k3⟩ := exAll_row j i r h
        refine ⟨k, ?_, ?_, fun c hc => pre.subset (k3 c hc)⟩
        · obtain ⟨t, ht⟩ := pre
          show (L.foldl (exSign f key) ((exAll f L start j).1, [])).1[i]? = _
          rw [← ht, List.getElem?_append_left (List.getElem?_eq_some_iff.mp k1).1]
          exact k1
        · rw [k2]
          refine List.map_congr_left fun c hc => ?_
          rw [idx_pre (k3 c hc) pre]
      · have hi2 : i = j := by
          have := (List.getElem?_eq_some_iff.mp h).1
          rw [List.length_append] at this
          have : i < (exAll f L start j).2.length + 1 := this
          omega
        rw [List.getElem?_append_right (by omega), hi2, hl, show j - min j (exAll f L start j).1.length = 0 by omega] at h
        obtain rfl := Option.some.inj h
        obtain ⟨f1, f2⟩ := fold_row (f := f) key L ((exAll f L start j).1, [])
        refine ⟨key, ?_, by rw [f1, List.nil_append], f2⟩
        obtain ⟨t, ht⟩ := pre
        show (L.foldl (exSign f key) ((exAll f L start j).1, [])).1[i]? = _
        rw [← ht, hi2, List.getElem?_append_left hj]
        exact hk
    · rw [e] at h ⊢
      exact exAll_row j i r h
/-- all is explored in N steps -/
structure Done (f : α → Nat → α) (L : W) (start : α) (N : Nat) : Prop where
  len : (exAll f L start N).1.length = N
  pos : 1 ≤ N
theorem Done.tab {N : Nat} (d : Done f L start N) : TabOk (exAll f L start N).2 L.length (N : Int) := by
  have hl := exAll_rows (f := f) (L := L) (start := start) N
  rw [d.len, Nat.min_self] at hl
  refine ⟨by rw [hl], fun r hr => ?_⟩
  obtain ⟨i, hi⟩ := List.mem_iff_getElem?.mp hr
  obtain ⟨key, _, h2, h3⟩ := exAll_row N i r hi
  refine ⟨by rw [h2, List.length_map], fun x hx => ?_⟩
  rw [h2] at hx
  obtain ⟨c, hc, rfl⟩ := List.mem_map.mp hx
  have := List.idxOf_lt_length_of_mem (h3 c hc)
  rw [d.len] at this
  omega
theorem Done.led {N : Nat} (d : Done f L start N) : ∀ (u : W) (key : α), key ∈ (exAll f L start N).1 → (∀ c ∈ u, c ∈ L) → u.foldl f key ∈ (exAll f L start N).1 ∧ ledL L (exAll f L start N).2 u (((exAll f L start N).1.idxOf key : Nat) : Int) = (((exAll f L start N).1.idxOf (u.foldl f key) : Nat) : Int)
  | [], key, hk, _ => ⟨hk, rfl⟩
  | c :: u, key, hk, hu => by
    have hl := exAll_rows (f := f) (L := L) (start := start) N
    rw [d.len, Nat.min_self] at hl
    have hi := List.idxOf_lt_length_of_mem hk
    have hi2 : (exAll f L start N).1.idxOf key < (exAll f L start N).2.length := Nat.lt_of_lt_of_eq hi (d.len.trans hl.symm)
    obtain ⟨key2, k1, k2, k3⟩ := exAll_row N _ _ (List.getElem?_eq_getElem hi2)
    have ek : key2 = key := by
      rw [List.getElem?_eq_getElem hi] at k1
      rw [← Option.some.inj k1]
      exact List.getElem_idxOf hi
    subst ek
    have hc := hu c (.head _)
    obtain ⟨a, b⟩ := Done.led d u (f key2 c) (k3 c hc) fun x hx => hu x (.tail _ hx)
    refine ⟨a, ?_⟩
    rw [List.foldl_cons, ← b]
    show ledL L _ u (stepL L _ _ c) = _
    congr 1
    unfold stepL
    have e1 : (exAll f L start N).2.getD (((exAll f L start N).1.idxOf key2 : Nat) : Int).toNat [] = (exAll f L start N).2[(exAll f L start N).1.idxOf key2] := by
      rw [Int.toNat_natCast, List.getD_eq_getElem?_getD, List.getElem?_eq_getElem hi2] <;> rfl
    rw [e1, k2, List.getD_eq_getElem?_getD, List.getElem?_map, List.getElem?_eq_getElem (List.idxOf_lt_length_of_mem hc)]
    show (((exAll f L start N).1.idxOf (f key2 (L[L.idxOf c]'(List.idxOf_lt_length_of_mem hc))) : Nat) : Int) = _
    rw [List.getElem_idxOf (List.idxOf_lt_length_of_mem hc)]
theorem Done.zero {N : Nat} (d : Done f L start N) : start ∈ (exAll f L start N).1 ∧ (exAll f L start N).1.idxOf start = 0 := by
  have pre := (exAll_pre (f := f) (L := L) (start := start) 0 N).1
  rw [Nat.zero_add] at pre
  obtain ⟨t, ht⟩ := pre
  have : (exAll f L start N).1 = start :: t := by rw [← ht] <;> rfl
  rw [this]
  exact ⟨List.mem_cons_self, List.idxOf_cons_self⟩
/-- two words lead to one place just if they make one key -/
theorem Done.same {N : Nat} (d : Done f L start N) {u v : W} (hu : ∀ c ∈ u, c ∈ L) (hv : ∀ c ∈ v, c ∈ L) : ledL L (exAll f L start N).2 u 0 = ledL L (exAll f L start N).2 v 0 ↔ u.foldl f start = v.foldl f start := by
  obtain ⟨z1, z2⟩ := d.zero
  obtain ⟨a1, a2⟩ := d.led u start z1 hu
  obtain ⟨b1, b2⟩ := d.led v start z1 hv
  rw [z2] at a2 b2
  have a2' : ledL L (exAll f L start N).2 u 0 = _ := a2
  have b2' : ledL L (exAll f L start N).2 v 0 = _ := b2
  rw [a2', b2']
  constructor
  · intro e
    have h1 := List.idxOf_lt_length_of_mem a1
    have h2 := List.idxOf_lt_length_of_mem b1
    have e : (exAll f L start N).1.idxOf (u.foldl f start) = (exAll f L start N).1.idxOf (v.foldl f start) := by omega
    rw [← List.getElem_idxOf h1, ← List.getElem_idxOf h2]
    congr 1
  · intro e
    rw [e]
theorem Done.most {N : Nat} (d : Done f L start N) (hN : N ≤ 400) : (∀ j, (exAll f L start j).1.length ≤ 400) ∧ exAll f L start 400 = exAll f L start N := by
  refine ⟨fun j => Nat.le_trans (exAll_most (Nat.le_of_eq d.len) j) hN, ?_⟩
  have := exAll_stop (Nat.le_of_eq d.len) (400 - N)
  rw [show N + (400 - N) = 400 by omega] at this
  exact this
end
end WK
set_option Elab.async false
set_option linter.all false
set_option maxRecDepth 100000
set_option maxHeartbeats 4000000
namespace WK
open PySem L2 PyProof.Rows K1
section
variable {α : Type} [DecidableEq α] {f : α → Nat → α} {L : W} {start : α}
theorem fold_in {S : List α} {key : α} (hk : ∀ c ∈ L, f key c ∈ S) : ∀ {l : W} {st : List α × List Int}, (∀ c ∈ l, c ∈ L) → (∀ a ∈ st.1, a ∈ S) → ∀ a ∈ (l.foldl (exSign f key) st).1, a ∈ S
  | [], _, _, h => h
  | c :: l, st, hl, h => fold_in hk (l := l) (st := exSign f key st c) (fun d hd => hl d (.tail _ hd)) fun a ha => by
    unfold exSign at ha
    split at ha
    · exact h a ha
    · rcases List.mem_append.mp ha with z | z
      · exact h a z
      · rw [List.mem_singleton.mp z]
        exact hk c (hl c (.head _))
/-- what is explored stays in what the step keeps -/
theorem keys_in {S : List α} (h0 : start ∈ S) (hs : ∀ a ∈ S, ∀ c ∈ L, f a c ∈ S) : ∀ j, ∀ a ∈ (exAll f L start j).1, a ∈ S
  | 0, a, ha => by
    rw [List.mem_singleton.mp ha]
    exact h0
  | j + 1, a, ha => by
    rcases exAll_cases (f := f) (L := L) (start := start) j with ⟨key, hk, e⟩ | ⟨_, e⟩
    · rw [e] at ha
      exact fold_in (hs key (keys_in h0 hs j key (List.mem_of_getElem? hk))) (fun _ h => h) (keys_in h0 hs j) a ha
    · rw [e] at ha
      exact keys_in h0 hs j a ha
/-- over finitely many keys exploring ends -/
theorem done_in {S : List α} (h0 : start ∈ S) (hs : ∀ a ∈ S, ∀ c ∈ L, f a c ∈ S) : ∃ N, Done f L start N ∧ N ≤ S.length := by
  have few : ∀ j, (exAll f L start j).1.length ≤ S.length := fun j => (exAll_nd (f := f) (L := L) (start := start) j).length_le_of_subset (keys_in h0 hs j)
  have at0 : 1 ≤ (exAll f L start S.length).1.length := by
    have := (exAll_pre (f := f) (L := L) (start := start) 0 S.length).1.length_le
    rw [Nat.zero_add] at this
    exact this
  refine ⟨(exAll f L start S.length).1.length, ⟨?_, at0⟩, few _⟩
  generalize hN : (exAll f L start S.length).1.length = N
  have le : N ≤ S.length := hN ▸ few _
  have up := (exAll_pre (f := f) (L := L) (start := start) N (S.length - N)).1.length_le
  rw [show N + (S.length - N) = S.length by omega, hN] at up
  have st := exAll_stop up (S.length - N)
  rw [show N + (S.length - N) = S.length by omega] at st
  rw [← st]
  exact hN
/-- the keys are those to which words lead -/
theorem Done.reach {N : Nat} (d : Done f L start N) (a : α) : a ∈ (exAll f L start N).1 ↔ ∃ u : W, (∀ c ∈ u, c ∈ L) ∧ u.foldl f start = a := by
  constructor
  · intro h
    have all : ∀ j, ∀ a ∈ (exAll f L start j).1, ∃ u : W, (∀ c ∈ u, c ∈ L) ∧ u.foldl f start = a := by
      intro j
      induction j with
      | zero =>
        intro a ha
        exact ⟨[], fun _ z => absurd z List.not_mem_nil, (List.mem_singleton.mp ha).symm⟩
      | succ j ih =>
        intro a ha
        rcases exAll_cases (f := f) (L := L) (start := start) j with ⟨key, hk, e⟩ | ⟨_, e⟩
        · rw [e] at ha
          obtain ⟨u, hu, eu⟩ := ih key (List.mem_of_getElem? hk)
          have : ∀ (l : W) (st : List α × List Int), (∀ c ∈ l, c ∈ L) → (∀ b ∈ st.1, ∃ u : W, (∀ c ∈ u, c ∈ L) ∧ u.foldl f start = b) → ∀ b ∈ (l.foldl (exSign f key) st).1, ∃ u : W, (∀ c ∈ u, c ∈ L) ∧ u.foldl f start = b := by
            intro l
            induction l with
            | nil => exact fun _ _ h => h
            | cons c l ihl =>
              intro st hl hst
              refine ihl (exSign f key st c) (fun d hd => hl d (.tail _ hd)) fun b hb => ?_
              unfold exSign at hb
              split at hb
              · exact hst b hb
              · rcases List.mem_append.mp hb with z | z
                · exact hst b z
                · refine ⟨u ++ [c], fun d hd => ?_, ?_⟩
                  · rcases List.mem_append.mp hd with y | y
                    · exact hu d y
                    · rw [List.mem_singleton.mp y]
                      exact hl c (.head _)
                  · rw [List.foldl_append, eu, List.mem_singleton.mp z]
                    rfl
          exact this L _ (fun _ h => h) ih a ha
        · rw [e] at ha
          exact ih a ha
    exact all N a h
  · rintro ⟨u, hu, rfl⟩
    exact (d.led u start d.zero.1 hu).1
end
end WK
set_option Elab.async false
set_option linter.all false
set_option maxRecDepth 100000
set_option maxHeartbeats 8000000
namespace WK
open PySem L2 PyProof.Rows LCX K1 FV DP
open TX (sg sigs)
open PySem.W (Frag kitOne)
end WK
set_option Elab.async false
set_option linter.all false
set_option maxRecDepth 100000
set_option maxHeartbeats 8000000
namespace WK
open PySem L2 PyProof.Rows LCX K1 FV DP
open TX (sg sigs)
open PySem.W (Frag kitOne)
abbrev sNeedBox : Stmt := top 64
abbrev sSame : Stmt := top 54
section
variable {P : Program} {w : World} {K : PySem.W.Frag} {mg : Str → Option Value} {base : Heap} {C cD : Addr}
theorem scNB : FnScope ["box"] ["box"] (defScope sNeedBox) := ⟨rfl, rfl, rfl, by decide +kernel, rfl, by decide +kernel, by decide +kernel⟩
theorem scSm : FnScope ["one", "other"] ["one", "other"] (defScope sSame) := ⟨rfl, rfl, rfl, by decide +kernel, rfl, by decide +kernel, by decide +kernel⟩
end
end WK
set_option Elab.async false
set_option linter.all false
set_option maxRecDepth 100000
set_option maxHeartbeats 8000000
namespace WK
open PySem L2 PyProof.Rows LCX K1 FV DP
open TX (sg sigs)
open PySem.W (Frag kitOne)
def spBoxT (C : Addr) : Sp := fun vs H Q _ => ∃ (p dx : Addr) (L : W) (t : Addr) (tb : List (List Int)) (n : Int), vs = [.ref p, .str (tx L), .ref t] ∧ Let L ∧ H p = some (.ins C dx []) ∧ RowsAt H t tb ∧ TabOk tb L.length n ∧ 1 ≤ n ∧ n ≤ 6 ∧
  ∀ H', H' p = some (.ins C dx (bfl (.str (tx L)) (.ref t))) → (∀ b o, H b = some o → b ≠ p → H' b = some o) → RowsAt H' t tb → Q .non H'
theorem put_bfl (t l : V) : putF "_letters" l (putF "_table" t []) = bfl l t := put2 l t
section
variable {P : Program} {w : World} {K : PySem.W.Frag} {mg : Str → Option Value} {base : Heap} {C cD fL fT : Addr} {dL dT : FuncData}
theorem ok_boxt {f : Addr} {oc kV dc pm ct cd dV : Value} {an od : Option Addr} {sl : Array (Option Value)} (lk : K.lookup f = some ⟨oc, od, .func (PySem.W.fnOf "__init__" "Box.__init__" (defArgs sBoxI) (defBody sBoxI) (defScope sBoxI) dV kV dc pm an cd ct), sl⟩) (hcd : PySem.W.codeIn K cd "Box.__init__" = true)
    (T : TN mg) (M : TBx K mg C cD) (iD : kitOne K (.type "tuple") (.ref cD) = some false) (mp : ∃ t, mg "MAX_PLACES" = some (.int 6 t)) (AL : Fn K mg "is_letters" sIsLet ["value"] fL dL) (GL : FnOk P w K mg base CX0 2 fL dL ["value"] (spIsLet K))
    (AT : Fn K mg "is_table" sIsTab ["value", "width", "most"] fT dT) (GT : FnOk P w K mg base CX0 4 fT dT ["value", "width", "most"] (spTab K)) :
    FnOk P w K mg base CX0 5 f (PySem.W.fnOf "__init__" "Box.__init__" (defArgs sBoxI) (defBody sBoxI) (defScope sBoxI) dV kV dc pm an cd ct) ["self", "letters", "table"] (spBoxT C) := by
  obtain ⟨tm, most⟩ := mp
  refine fn_of lk hcd scBI (fun vs H Q E h => ?_) (fun A outer s H vs Q E hr h => ?_)
  · obtain ⟨p, dx, L, t, tb, n, rfl, _⟩ := h
    rfl
  · obtain ⟨p, dx, L, t, tb, n, rfl, hL, hp, rows, ok, n1, n6, q⟩ := h
    have hr2 : Room 2 _ := hr.mono (by decide)
    refine ⟨_, pss_cons (ps_if (pt_not (pt_val (pe_call GL hr2 rfl AL.g AL.F.kp AL.b .nil pass0 (pa_cons (pv 1) pa_nil)))) (pss_one ps_never) pss_nil)
      (pss_cons (ps_if (pt_val (pe_callB call_isi (by rfl) T.isi (by decide +kernel) (pa_cons (pv 2) (pa_cons (pe_glob rfl M.gD (show RelV (.ref cD) (.ref cD) from rfl)) pa_nil)))) (pss_one ps_never)
        (pss_one (ps_if (pt_val (pe_call GT hr rfl AT.g AT.F.kp AT.b .nil pass0 (pa_cons (pv 2) (pa_cons (pe_callB call_len_str (by rfl) T.len PySem.boot_len (pa_cons (pv 1) pa_nil)) (pa_cons (pe_glob rfl most (show RelV (.int 6) (.int 6 tm) from ⟨tm, rfl⟩)) pa_nil)))))
          (pss_one (ps_fld (pv 0) (pv 2) rfl)) (pss_one ps_never))))
      (pss_one (ps_fld (pv 0) (pv 1) rfl))), ?_⟩
    have hk := hL.few
    have hl := ok.len
    refine ⟨_, rfl, _, rfl, .inl ⟨tx L, rfl, by rw [tx_len]; omega, fun H1 s1 => ⟨_, rfl, ?_⟩⟩⟩
    rw [letB_let hL]
    obtain ⟨ts, ht, ho⟩ := id rows
    refine ⟨_, rfl, _, _, _, _, false, rfl, .own cD, tyT (SqT.of (s1 _ _ ht)), iD, false, rfl, ?_⟩
    refine ⟨_, rfl, _, rfl, _, rfl, by rw [tx_len, sizeLine_eq]; omega, .ref t, _, _, rfl, .inl ⟨t, _, rsOf tb, rfl, SqT.of (s1 _ _ ht), by rw [List.length_map, ho.len]; omega, rows_of (wd := L.length) (by omega) (ho.to fun _ _ _ z => s1 _ _ z) (fun r hr => (ok.row r hr).1), fun H2 s2 => ⟨_, rfl, ?_⟩⟩⟩
    rw [tx_len, tabB_in ok n1 n6]
    have s12 := s1.trans s2
    have hp2 := s12 _ _ hp
    refine ⟨_, rfl, _, rfl, p, C, dx, [], rfl, hp2, M.cl, M.nT, by show 0 < 1000; decide, ?_⟩
    refine ⟨_, rfl, _, rfl, p, C, dx, _, rfl, upd_same, M.cl, M.nL, by show 1 < 1000; decide, ?_⟩
    have kt : KeepsTup H _ := (Same.tup' s12).trans ((tup_upd (o := .ins C dx (putF "_table" (V.ref t) [])) hp2 fun _ z => nomatch z).trans (tup_upd (o := .ins C dx (putF "_letters" (V.str (tx L)) (putF "_table" (V.ref t) []))) upd_same fun _ z => nomatch z))
    refine q _ ?_ (fun b o z n => ?_) (rows.keep kt)
    · rw [upd_same, put_bfl]
    · rw [upd_ne n, upd_ne n]
      exact s12 _ _ z
end
end WK
set_option Elab.async false
set_option linter.all false
set_option maxRecDepth 100000
set_option maxHeartbeats 8000000
namespace WK
open PySem L2 PyProof.Rows LCX K1 FV DP
open TX (sg sigs)
open PySem.W (Frag kitOne)
abbrev sMBox : Stmt := top 96
abbrev sLBox : Stmt := top 95
def spMBox (C : Addr) : Sp := fun vs H Q _ => ∃ (L : W) (l : Addr) (tb : List (List Int)) (n : Int), vs = [.str (tx L), .ref l] ∧ Let L ∧ PTab H l tb ∧ TabOk tb L.length n ∧ 1 ≤ n ∧ n ≤ 6 ∧ ∀ o H', H o = none → Same H H' → BoxAt C H' o L tb → Q (.ref o) H'
section
variable {P : Program} {w : World} {K : PySem.W.Frag} {mg : Str → Option Value} {base : Heap} {C cD fB fR fT : Addr} {dB dR dT : FuncData}
theorem scMB : FnScope ["_law_letters", "_law_table_here"] ["_law_letters", "_law_table_here"] (defScope sMBox) := ⟨rfl, rfl, rfl, by decide +kernel, rfl, by decide +kernel, by decide +kernel⟩
theorem ok_mbox {f : Addr} {fd : FuncData} (F : Fun K "_law_made_box" "_law_made_box" sMBox f fd) (T : TN mg) (M : TBx K mg C cD) (MI : Mk K C fB) (GI : FnOk P w K mg base CX0 5 fB dB ["self", "letters", "table"] (spBoxT C)) (bI : Binds K dB ["self", "letters", "table"] []) :
    FnOk P w K mg base CX0 7 f fd ["_law_letters", "_law_table_here"] (spMBox C) := by
  refine F.ok scMB (fun vs H Q E h => ?_) (fun cdv A outer s H vs Q E hr h => ?_)
  · obtain ⟨L, l, tb, n, rfl, _⟩ := h
    rfl
  · obtain ⟨L, l, tb, n, rfl, hL, ⟨ts, hl, ho⟩, ok, n1, n6, q⟩ := h
    refine ⟨_, pss_one (ps_ret (pe_make (E := E0) MI GI hr rfl M.gC bI .nil pass0 (pa_cons (pv 0) (pa_cons (pe_callTy call_tuple_of (by rfl) T.tuple (by decide +kernel) (pa_cons (pv 1) pa_nil)) pa_nil)))), ?_⟩
    refine ⟨_, rfl, _, rfl, l, _, rfl, .inl ⟨SqL.of hl, fun t ht => ?_⟩⟩
    have s1 := same_upd (o := .tup (ts.map V.ref)) ht
    have a1 : upd H t (.tup (ts.map V.ref)) t = some (.tup (ts.map V.ref)) := upd_same
    have rows : RowsAt (upd H t (.tup (ts.map V.ref))) t tb := ⟨ts, a1, ho.to fun _ _ _ z => s1 _ _ z⟩
    intro x dx hx hdx ne
    have s2 : Same (upd H t (.tup (ts.map V.ref))) (upd (upd (upd H t (.tup (ts.map V.ref))) dx (.own x)) x (.ins C dx [])) := fun b o z => by rw [upd_ne (ne_of_none z hx), upd_ne (ne_of_none z hdx)]; exact z
    refine ⟨x, dx, L, t, tb, n, rfl, hL, upd_same, rows.keep (Same.tup' s2), ok, n1, n6, fun H' h1 h2 h3 => ?_⟩
    have s3 : Same H H' := fun b o z => h2 b o (s2 _ _ (s1 _ _ z)) (ne_of_none (s1 _ _ z) hx)
    exact ⟨rfl, q x H' (s1.free hx) s3 ⟨dx, t, h1, h3⟩⟩
end
end WK
set_option Elab.async false
set_option linter.all false
set_option maxRecDepth 100000
set_option maxHeartbeats 8000000
namespace WK
open PySem L2 PyProof.Rows LCX K1 FV DP
open TX (sg sigs)
open PySem.W (Frag kitOne)
abbrev NLB : List Str := ["_law_dice_here", "_law_letters", "_law_most", "_law_size", "_law_way", "_law_steps", "_law_letter", "_law_place", "_law_step"]
abbrev scB2 : Scope := { kind := .function, names := [(".0", .local), ("_law_place", .cell), ("tuple", .globalImplicit), ("_law_size", .cell), ("_law_steps", .cell)], isGenerator := false, isCoroutine := false }
abbrev tRowsB (K : Frag) (te : TE) : TE := tCB (rTupL K) (tCons (tLc (iList K (tVar 5)) (gName 8) tYes te [8]) tNil)
abbrev tModB : TE := tOp (rI (fun x j => 0 < j) fun i j => V.int (i % j)) (tCB (fun xs H Q => (∃ i, xs = [V.int i] ∧ Q (V.int i) H) ∨ ∃ k, xs = [V.bl k] ∧ Q (V.int (if k = true then 1 else 0)) H) (tCons (tOp (rI0 fun i j => V.int (i + j)) (tVar 7) (tVar 8)) tNil)) (tVar 3)
abbrev tMinB : TE := tCB (fun xs H Q => ∃ i j, xs = [V.int i, V.int j] ∧ Q (V.int (if j < i then j else i)) H) (tCons (tOp (rI0 fun i j => V.int (i - j)) (tVar 3) (tC (V.int 1))) (tCons (tOp (rI0 fun i j => V.int (i + j)) (tVar 7) (tVar 8)) tNil))
theorem iteT' {c : Bool} {a b : Prop} (h : c = true) (k : a) : (if c = true then a else b) := by
  rw [h]
  exact k
/-- rows by a step's numbers: one for each place -/
theorem rows_by {K : Frag} {te : TE} {n : Nat} {ss : List Int} {g : Nat → Int → Int} {a0 a1 a2 a3 a4 x6 x7 x8 : Option V} {l D : Addr} {H : Hp} {Qd : Hp → Prop} (hn : n < 1000) (hl : H l = some (.lst (ss.map V.int))) (hs : ss.length < 1000)
    (hte : ∀ (i : Nat), i < n → ∀ s ∈ ss, ∀ (H : Hp) (Q : VK), Q (.int (g i s)) H → te [a0, a1, a2, a3, a4, some (.ref l), x6, some (.int (0 + (i : Int))), some (.int s)] H Q) (hd : H D = none)
    (q : ∀ H', Same H H' → PTab H' D ((List.range n).map fun i => ss.map (g i)) → Qd H') : Went (Itr 0 n) (gName 7) tYes (tRowsB K te) [7] [a0, a1, a2, a3, a4, some (.ref l), x6, x7, x8] D H Qd := by
  refine lc_range (lo := 0) (n := n) (fun i H4 => Same H H4 ∧ ∃ ts : List Addr, H4 D = some (.lst (ts.map V.ref)) ∧ Objs oTup H4 ts ((List.range i).map fun i => ss.map (g i))) ⟨same_upd hd, [], upd_same, trivial⟩ ?_ ?_
  · rintro i H4 hi ⟨s4, ts, hd4, ho⟩
    have hl4 := s4 _ _ hl
    refine ⟨rfl, _, rfl, l, rfl, ⟨_, SqL.of hl4⟩, fun D3 hD3 => ?_⟩
    refine same_list (l := ss) (val := V.int) (r := fun s => [V.int (g i s)]) hD3 (SqL.of hl4) (by rw [sizeLine_eq]; omega) (fun _ => Nat.le_refl _) (fun s hs H5 acc s5 hacc hlen N hN => ?_) (fun H5 s5 hd5 => ?_)
    · refine ⟨rfl, hte i hi s hs _ _ ?_⟩
      exact ⟨acc, hacc, hlen, hN _ (same_at s5 hD3) upd_same⟩
    · have e : ss.flatMap (fun s => [V.int (g i s)]) = (ss.map (g i)).map V.int := by rw [flat_map, List.map_map] <;> rfl
      rw [e] at hd5
      refine ⟨D3, _, rfl, .inl ⟨SqL.of hd5, fun t ht => ?_⟩⟩
      have s6 : Same H4 (upd H5 t (.tup ((ss.map (g i)).map V.int))) := same_two s5 ht
      have hd6 := s6 _ _ hd4
      have lt := ho.len
      rw [List.length_map, List.length_range] at lt
      refine ⟨_, hd6, by rw [List.length_map, sizeLine_eq]; omega, same_at (s4.trans s6) hd, ts ++ [t], by rw [upd_same, List.map_append] <;> rfl, ?_⟩
      have kt := tup_upd (o := .lst (ts.map V.ref ++ [.ref t])) hd6 (fun _ z => nomatch z)
      have ht1 : (upd H5 t (.tup ((ss.map (g i)).map V.int))) t = some (oTup (ss.map (g i))) := upd_same
      rw [List.range_succ, List.map_append]
      exact objs_tup ((objs_tup ho (Same.tup' s6)).snoc ht1) kt
  · rintro H4 ⟨s4, ts, hd4, ho⟩
    exact q H4 s4 ⟨ts, hd4, ho⟩
theorem tab_by {n wd : Nat} {ss : List Int} {g : Nat → Int → Int} (hw : ss.length = wd) (h : ∀ i < n, ∀ s ∈ ss, 0 ≤ g i s ∧ g i s < (n : Int)) : TabOk ((List.range n).map fun i => ss.map (g i)) wd n := by
  refine ⟨by rw [List.length_map, List.length_range], fun r hr => ?_⟩
  obtain ⟨i, hi, rfl⟩ := List.mem_map.mp hr
  refine ⟨by rw [List.length_map, hw], fun x hx => ?_⟩
  obtain ⟨s, hs, rfl⟩ := List.mem_map.mp hx
  exact h i (List.mem_range.mp hi) s hs
def spLBox : Sp := fun vs H Q _ => ∃ (p : Addr) (L : W) (m : Int), vs = [.ref p, .str (tx L), .int m] ∧ DiceAt H p ∧ L ≠ [] ∧ L.length ≤ 26 ∧ 1 ≤ m ∧ m ≤ 59 ∧
  ∀ (l : Addr) (tb : List (List Int)) (n : Int) (H' : Hp), H l = none → l ≠ p → DiceAt H' p → But p H H' → PTab H' l tb → TabOk tb L.length n → 1 ≤ n → n ≤ m → Q (.ref l) H'
section
variable {P : Program} {w : World} {K : PySem.W.Frag} {mg : Str → Option Value} {base : Heap} {fR fT : Addr} {dR dT : FuncData}
theorem scLB : FnScope NLB ["_law_dice_here", "_law_letters", "_law_most"] (defScope sLBox) := ⟨rfl, rfl, rfl, by decide +kernel, rfl, by decide +kernel, by decide +kernel⟩
theorem ok_lbox {f : Addr} {fd : FuncData} (F : Fun K "_law_box" "_law_box" sLBox f fd) (T : TN mg) (AR : Fn K mg "_law_roll" sRoll ["_law_dice_here", "_law_total"] fR dR)
    (AT : Fn K mg "_law_table" sLTab ["_law_dice_here", "_law_letters", "_law_size", "_law_sorts"] fT dT) (GT : FnOk P w K mg base CX0 3 fT dT ["_law_dice_here", "_law_letters", "_law_size", "_law_sorts"] spLTab) :
    FnOk P w K mg base CX0 4 f fd ["_law_dice_here", "_law_letters", "_law_most"] spLBox := by
  have GR : FnOk P w K mg base CX0 1 fR dR ["_law_dice_here", "_law_total"] spRoll := ok_roll AR.F T.dice
  refine F.ok scLB (fun vs H Q E h => ?_) (fun cdv A outer s H vs Q E hr h => ?_)
  · obtain ⟨p, L, m, rfl, _⟩ := h
    rfl
  · obtain ⟨p, L, m, rfl, hD, hL, hL2, m1, m5, q⟩ := h
    have hr1 : Room 1 _ := hr.mono (by decide)
    refine ⟨_, pss_cons (ps_asg (pe_tup (pa_cons (pe_op op_add pe_int (pe_call GR hr1 rfl AR.g AR.F.kp AR.b .nil pass0 (pa_cons (pv 0) (pa_cons (pv 2) pa_nil)))) (pa_cons (pe_call GR hr1 rfl AR.g AR.F.kp AR.b .nil pass0 (pa_cons (pv 0) (pa_cons pe_int pa_nil))) pa_nil)))
        (pg_tup (by rfl) (pgs_cons (pg_name (i := 3) scLB.nd rfl (Or.inr rfl)) (pgs_cons (pg_name (i := 4) scLB.nd rfl (Or.inl rfl)) pgs_nil))))
      (pss_cons (ps_if (pt_cmpR op_eq (pv 4) pe_int (nomark _)) (pss_one (ps_ret (pe_call GT hr rfl AT.g AT.F.kp AT.b .nil pass0 (pa_cons (pv 0) (pa_cons (pv 1) (pa_cons (pv 3) (pa_cons (pe_lst (pa_cons pe_int (pa_cons pe_int (pa_cons pe_int (pa_cons pe_int pa_nil))))) pa_nil))))))) pss_nil)
      (pss_cons (ps_if (pt_cmpR op_eq (pv 4) pe_int (nomark _)) (pss_one (ps_ret (pe_call GT hr rfl AT.g AT.F.kp AT.b .nil pass0 (pa_cons (pv 0) (pa_cons (pv 1) (pa_cons (pv 3) (pa_cons (pe_lst (pa_cons pe_int (pa_cons pe_int (pa_cons pe_int (pa_cons pe_int pa_nil))))) pa_nil))))))) pss_nil)
      (pss_cons (ps_if (pt_cmpR op_eq (pv 4) pe_int (nomark _)) (pss_one (ps_ret (pe_call GT hr rfl AT.g AT.F.kp AT.b .nil pass0 (pa_cons (pv 0) (pa_cons (pv 1) (pa_cons (pv 3) (pa_cons (pe_lst (pa_cons pe_int (pa_cons pe_int (pa_cons pe_int (pa_cons pe_int pa_nil))))) pa_nil))))))) pss_nil)
      (pss_cons (ps_if (pt_cmpR op_eq (pv 4) pe_int (nomark _))
        (pss_cons (ps_set (i := 5) scLB.nd rfl (Or.inr rfl) (pe_lc (own := [("_law_letter", 6)]) (g := gName 6) (tt := tYes) rfl scLB.nd (pi_str (pv 1)) (blkOk_by (own := [("_law_letter", 6)]) (N := NLB) (sc := defScope sLBox) (by decide +kernel)) (fun _ _ _ _ _ => pg_name (i := 6) scLB.nd rfl (Or.inl rfl)) (fun _ _ _ _ _ => pts_nil)
            (fun _ _ _ _ _ => pe_call GR hr1 rfl AR.g AR.F.kp AR.b .nil pass0 (pa_cons (pv 0) (pa_cons (pv 3) pa_nil)))))
        (pss_one (ps_ret (pe_lc (own := [("_law_place", 7)]) (g := gName 7) (tt := tYes) (te := tRowsB K (tModB)) rfl scLB.nd (pi_range1 rfl T.rng (pa_cons (pv 3) pa_nil))
          (blkOk_by (own := [("_law_place", 7)]) (N := NLB) (sc := defScope sLBox) (by decide +kernel)) (fun _ _ _ _ _ => pg_name (i := 7) scLB.nd rfl (Or.inr rfl)) (fun _ _ _ _ _ => pts_nil)
          (fun _ _ _ _ _ => pe_callTy call_tuple_of (by rfl) T.tuple (by decide +kernel) (pa_cons (pe_lc (own := [("_law_step", 8)]) (g := gName 8) (tt := tYes) (te := tModB) rfl scLB.nd (pi_list (pv 5))
            (blkOk_by (own := [("_law_step", 8)]) (N := NLB) (sc := scB2) (by decide +kernel)) (fun _ _ _ _ _ => pg_name (i := 8) scLB.nd rfl (Or.inl rfl)) (fun _ _ _ _ _ => pts_nil)
            (fun _ _ _ _ _ => pe_op op_mod (pe_callTy call_int1 (by rfl) T.int (by decide +kernel) (pa_cons (pe_op op_add (pv 7) (pv 8)) pa_nil)) (pv 3))) pa_nil)))))) pss_nil)
      (pss_cons (ps_if (pt_cmpR op_eq (pv 4) pe_int (nomark _))
        (pss_cons (ps_set (i := 5) scLB.nd rfl (Or.inr rfl) (pe_lc (own := [("_law_letter", 6)]) (g := gName 6) (tt := tYes) rfl scLB.nd (pi_str (pv 1)) (blkOk_by (own := [("_law_letter", 6)]) (N := NLB) (sc := defScope sLBox) (by decide +kernel)) (fun _ _ _ _ _ => pg_name (i := 6) scLB.nd rfl (Or.inl rfl)) (fun _ _ _ _ _ => pts_nil)
            (fun _ _ _ _ _ => pe_call GR hr1 rfl AR.g AR.F.kp AR.b .nil pass0 (pa_cons (pv 0) (pa_cons pe_int pa_nil)))))
        (pss_one (ps_ret (pe_lc (own := [("_law_place", 7)]) (g := gName 7) (tt := tYes) (te := tRowsB K (tMinB)) rfl scLB.nd (pi_range1 rfl T.rng (pa_cons (pv 3) pa_nil))
          (blkOk_by (own := [("_law_place", 7)]) (N := NLB) (sc := defScope sLBox) (by decide +kernel)) (fun _ _ _ _ _ => pg_name (i := 7) scLB.nd rfl (Or.inr rfl)) (fun _ _ _ _ _ => pts_nil)
          (fun _ _ _ _ _ => pe_callTy call_tuple_of (by rfl) T.tuple (by decide +kernel) (pa_cons (pe_lc (own := [("_law_step", 8)]) (g := gName 8) (tt := tYes) (te := tMinB) rfl scLB.nd (pi_list (pv 5))
            (blkOk_by (own := [("_law_step", 8)]) (N := NLB) (sc := scB2) (by decide +kernel)) (fun _ _ _ _ _ => pg_name (i := 8) scLB.nd rfl (Or.inl rfl)) (fun _ _ _ _ _ => pts_nil)
            (fun _ _ _ _ _ => pe_callB (call_min2 rfl) (by rfl) T.min (by decide +kernel) (pa_cons (pe_op op_sub (pv 3) pe_int) (pa_cons (pe_op op_add (pv 7) (pv 8)) pa_nil)))) pa_nil)))))) pss_nil)
      (pss_one (ps_ret (pe_call GT hr rfl AT.g AT.F.kp AT.b .nil pass0 (pa_cons (pv 0) (pa_cons (pv 1) (pa_cons (pv 3) (pa_cons (pe_lst (pa_cons pe_int (pa_cons pe_int (pa_cons pe_int (pa_cons pe_int (pa_cons pe_int (pa_cons pe_int (pa_cons pe_int pa_nil)))))))) pa_nil)))))))))))), ?_⟩
    refine ⟨_, rfl, _, rfl, p, m, rfl, hD, by omega, by omega, fun r1 H2 r10 r11 hD2 hB2 => ?_⟩
    refine ⟨_, _, rfl, rfl, _, rfl, p, 6, rfl, hD2, by omega, by omega, fun r2 H3 r20 r21 hD3 hB3 => ?_⟩
    refine ⟨by show 2 ≤ sizeLine; decide, fun a ha => ?_⟩
    refine ⟨a, _, rfl, SqT.of upd_same, rfl, _, _, rfl, _, _, rfl, rfl, ?_⟩
    have hD4 := hD3.new (o := .tup [V.int (1 + r1), V.int r2]) ha
    have b4 : But p H (upd H3 a (.tup [V.int (1 + r1), V.int r2])) := (hB2.trans hB3).trans (But.ofSame (same_upd ha))
    generalize upd H3 a (.tup [V.int (1 + r1), V.int r2]) = H4 at hD4 b4 ⊢
    clear hD hD2 hD3 hB2 hB3 ha
    obtain rfl | rfl | rfl | rfl | rfl | rfl : r2 = 0 ∨ r2 = 1 ∨ r2 = 2 ∨ r2 = 3 ∨ r2 = 4 ∨ r2 = 5 := by omega
    · refine ⟨_, rfl, rfl, _, rfl, iteT' rfl ?_⟩
      refine ⟨_, rfl, _, rfl, _, rfl, by show 4 ≤ sizeLine; decide, fun l4 hl4 => ⟨p, l4, L, 1 + r1, [0, 0, 2, 5], rfl, hD4.new hl4, hL, hL2, by omega, by omega, hD4.ne hl4, upd_same, by decide, by decide, fun l tb H' hl lp hD' hB' pt ok => ?_⟩⟩
      have b5 : But p H H' := (b4.trans (But.ofSame (same_upd hl4))).trans hB'
      exact q l tb (1 + r1) H' (but_free (b4.trans (But.ofSame (same_upd hl4))) hl lp) lp hD' b5 pt ok (by omega) (by omega)
    · refine ⟨_, rfl, rfl, _, rfl, iteF' rfl ?_⟩
      refine ⟨_, rfl, rfl, _, rfl, iteT' rfl ?_⟩
      refine ⟨_, rfl, _, rfl, _, rfl, by show 4 ≤ sizeLine; decide, fun l4 hl4 => ⟨p, l4, L, 1 + r1, [1, 1, 2, 4], rfl, hD4.new hl4, hL, hL2, by omega, by omega, hD4.ne hl4, upd_same, by decide, by decide, fun l tb H' hl lp hD' hB' pt ok => ?_⟩⟩
      have b5 : But p H H' := (b4.trans (But.ofSame (same_upd hl4))).trans hB'
      exact q l tb (1 + r1) H' (but_free (b4.trans (But.ofSame (same_upd hl4))) hl lp) lp hD' b5 pt ok (by omega) (by omega)
    · refine ⟨_, rfl, rfl, _, rfl, iteF' rfl ?_⟩
      refine ⟨_, rfl, rfl, _, rfl, iteF' rfl ?_⟩
      refine ⟨_, rfl, rfl, _, rfl, iteT' rfl ?_⟩
      refine ⟨_, rfl, _, rfl, _, rfl, by show 4 ≤ sizeLine; decide, fun l4 hl4 => ⟨p, l4, L, 1 + r1, [3, 3, 4, 6], rfl, hD4.new hl4, hL, hL2, by omega, by omega, hD4.ne hl4, upd_same, by decide, by decide, fun l tb H' hl lp hD' hB' pt ok => ?_⟩⟩
      have b5 : But p H H' := (b4.trans (But.ofSame (same_upd hl4))).trans hB'
      exact q l tb (1 + r1) H' (but_free (b4.trans (But.ofSame (same_upd hl4))) hl lp) lp hD' b5 pt ok (by omega) (by omega)
    · refine ⟨_, rfl, rfl, _, rfl, iteF' rfl ?_⟩
      refine ⟨_, rfl, rfl, _, rfl, iteF' rfl ?_⟩
      refine ⟨_, rfl, rfl, _, rfl, iteF' rfl ?_⟩
      refine ⟨_, rfl, rfl, _, rfl, iteT' rfl ?_⟩
      refine ⟨_, rfl, tx L, rfl, fun D hD2 => ?_⟩
      have Dp := hD4.ne hD2
      refine lc_it walk_str (fun i H5 => DiceAt H5 p ∧ But p H4 H5 ∧ ∃ ns : List Int, ns.length = i ∧ (∀ k ∈ ns, 0 ≤ k ∧ k < (1 + r1)) ∧ H5 D = some (.lst (ns.map V.int))) ⟨hD4.new hD2, but_two (But.refl p H4) hD2, [], rfl, fun k hk => (nomatch hk), upd_same⟩ (fun _ _ _ _ => trivial) ?_ ?_
      · rintro i x H5 H6 hi ⟨hD5, hB5, ns, hl, hg, hd⟩ ⟨rfl, c, hx, rfl⟩
        have hi' : i < L.length := by rw [size_tx] at hi; exact hi
        refine ⟨rfl, _, rfl, _, rfl, p, (1 + r1), rfl, hD5, by omega, by omega, fun k H7 k0 k1 hD7 hB7 => ?_⟩
        refine ⟨_, hB7 _ _ hd Dp, by rw [List.length_map, sizeLine_eq]; omega, hD7.keep fun o e => by rw [upd_ne (Ne.symm Dp)]; exact e, but_at (hB5.trans hB7) hD2, ns ++ [k], by rw [List.length_append, hl] <;> rfl, ?_, by rw [upd_same, List.map_append] <;> rfl⟩
        intro j hj
        rcases List.mem_append.mp hj with z | z
        · exact hg j z
        · rw [List.mem_singleton.mp z]
          exact ⟨k0, k1⟩
      · rintro H5 ⟨hD5, hB5, ns, hl, hg, hd⟩
        rw [size_tx] at hl
        refine ⟨_, rfl, _, rfl, by omega, by omega, fun D2 hD2' => ?_⟩
        refine rows_by (g := fun (i : Nat) (s : Int) => (0 + (i : Int) + s) % (1 + r1)) (by omega) hd (by omega) (fun i hi s hs H Q h => ⟨_, rfl, _, rfl, _, _, rfl, rfl, .inl ⟨_, rfl, _, rfl, _, _, rfl, rfl, by omega, h⟩⟩) hD2' fun H6 s6 pt => ?_
        have ok : TabOk ((List.range (1 + r1).toNat).map fun i => ns.map ((fun (i : Nat) (s : Int) => (0 + (i : Int) + s) % (1 + r1)) i)) L.length ((1 + r1).toNat : Nat) := tab_by hl fun i hi s hs => ?_
        · have nD := but_free (b4.trans hB5) hD2' (hD5.ne hD2')
          rw [show (((1 + r1).toNat : Nat) : Int) = 1 + r1 by omega] at ok
          exact q D2 _ (1 + r1) H6 nD (hD5.ne hD2') (hD5.keep fun _ e => s6 _ _ e) ((b4.trans hB5).trans (But.ofSame s6)) pt ok (by omega) (by omega)
        · have := hg s hs
          exact ⟨Int.emod_nonneg _ (by omega), by rw [show (((1 + r1).toNat : Nat) : Int) = 1 + r1 by omega]; exact Int.emod_lt_of_pos _ (by omega)⟩
    · refine ⟨_, rfl, rfl, _, rfl, iteF' rfl ?_⟩
      refine ⟨_, rfl, rfl, _, rfl, iteF' rfl ?_⟩
      refine ⟨_, rfl, rfl, _, rfl, iteF' rfl ?_⟩
      refine ⟨_, rfl, rfl, _, rfl, iteF' rfl ?_⟩
      refine ⟨_, rfl, rfl, _, rfl, iteT' rfl ?_⟩
      refine ⟨_, rfl, tx L, rfl, fun D hD2 => ?_⟩
      have Dp := hD4.ne hD2
      refine lc_it walk_str (fun i H5 => DiceAt H5 p ∧ But p H4 H5 ∧ ∃ ns : List Int, ns.length = i ∧ (∀ k ∈ ns, 0 ≤ k ∧ k < 3) ∧ H5 D = some (.lst (ns.map V.int))) ⟨hD4.new hD2, but_two (But.refl p H4) hD2, [], rfl, fun k hk => (nomatch hk), upd_same⟩ (fun _ _ _ _ => trivial) ?_ ?_
      · rintro i x H5 H6 hi ⟨hD5, hB5, ns, hl, hg, hd⟩ ⟨rfl, c, hx, rfl⟩
        have hi' : i < L.length := by rw [size_tx] at hi; exact hi
        refine ⟨rfl, _, rfl, p, 3, rfl, hD5, by omega, by omega, fun k H7 k0 k1 hD7 hB7 => ?_⟩
        refine ⟨_, hB7 _ _ hd Dp, by rw [List.length_map, sizeLine_eq]; omega, hD7.keep fun o e => by rw [upd_ne (Ne.symm Dp)]; exact e, but_at (hB5.trans hB7) hD2, ns ++ [k], by rw [List.length_append, hl] <;> rfl, ?_, by rw [upd_same, List.map_append] <;> rfl⟩
        intro j hj
        rcases List.mem_append.mp hj with z | z
        · exact hg j z
        · rw [List.mem_singleton.mp z]
          exact ⟨k0, k1⟩
      · rintro H5 ⟨hD5, hB5, ns, hl, hg, hd⟩
        rw [size_tx] at hl
        refine ⟨_, rfl, _, rfl, by omega, by omega, fun D2 hD2' => ?_⟩
        refine rows_by (g := fun (i : Nat) (s : Int) => if (0 + (i : Int) + s) < (1 + r1 - 1) then (0 + (i : Int) + s) else (1 + r1 - 1)) (by omega) hd (by omega) (fun i hi s hs H Q h => ⟨_, rfl, _, _, rfl, rfl, _, rfl, _, rfl, _, _, rfl, rfl, _, _, rfl, h⟩) hD2' fun H6 s6 pt => ?_
        have ok : TabOk ((List.range (1 + r1).toNat).map fun i => ns.map ((fun (i : Nat) (s : Int) => if (0 + (i : Int) + s) < (1 + r1 - 1) then (0 + (i : Int) + s) else (1 + r1 - 1)) i)) L.length ((1 + r1).toNat : Nat) := tab_by hl fun i hi s hs => ?_
        · have nD := but_free (b4.trans hB5) hD2' (hD5.ne hD2')
          rw [show (((1 + r1).toNat : Nat) : Int) = 1 + r1 by omega] at ok
          exact q D2 _ (1 + r1) H6 nD (hD5.ne hD2') (hD5.keep fun _ e => s6 _ _ e) ((b4.trans hB5).trans (But.ofSame s6)) pt ok (by omega) (by omega)
        · have := hg s hs
          split <;> omega
    · refine ⟨_, rfl, rfl, _, rfl, iteF' rfl ?_⟩
      refine ⟨_, rfl, rfl, _, rfl, iteF' rfl ?_⟩
      refine ⟨_, rfl, rfl, _, rfl, iteF' rfl ?_⟩
      refine ⟨_, rfl, rfl, _, rfl, iteF' rfl ?_⟩
      refine ⟨_, rfl, rfl, _, rfl, iteF' rfl ?_⟩
      refine ⟨_, rfl, _, rfl, _, rfl, by show 7 ≤ sizeLine; decide, fun l4 hl4 => ⟨p, l4, L, 1 + r1, [0, 1, 2, 3, 4, 5, 6], rfl, hD4.new hl4, hL, hL2, by omega, by omega, hD4.ne hl4, upd_same, by decide, by decide, fun l tb H' hl lp hD' hB' pt ok => ?_⟩⟩
      have b5 : But p H H' := (b4.trans (But.ofSame (same_upd hl4))).trans hB'
      exact q l tb (1 + r1) H' (but_free (b4.trans (But.ofSame (same_upd hl4))) hl lp) lp hD' b5 pt ok (by omega) (by omega)
end
end WK
set_option Elab.async false
set_option linter.all false
set_option maxRecDepth 100000
set_option maxHeartbeats 8000000
namespace WK
open PySem L2 PyProof.Rows LCX K1 FV LamX NdefX
open PySem.W (Frag kitOne)
abbrev sMet : Stmt := top 97
/-- a value whose text is known -/
inductive Shw (H : Hp) : V → Str → Prop
  | non : Shw H .non "None"
  | int (i : Int) (h : i.natAbs.log2 < 1920) (hl : ((toString i : String) : Str).length ≤ 1000) (hc : PyData.canLay0 (.str ((toString i : String) : Str)) = true) : Shw H (.int i) ((toString i : String) : Str)
  | tru : Shw H (.bl true) "True"
  | one : Shw H (.str "1") (reprText "1")
  | nul : Shw H (.str "0") (reprText "0")
  | tup {a : Addr} (h : H a = some (.tup [])) : Shw H (.ref a) (tupleText [])
  | lst {a : Addr} (h : H a = some (.lst [])) : Shw H (.ref a) (listText [])
  | dic {a : Addr} (h : H a = some (.dK [])) : Shw H (.ref a) (dictText [])
theorem Shw.to {H H' : Hp} {v : V} {x : Str} (h : Shw H v x) (k : ∀ a o, v = .ref a → H a = some o → H' a = some o) : Shw H' v x := by
  cases h with
  | non => exact .non
  | int i h hl hc => exact .int i h hl hc
  | tru => exact .tru
  | one => exact .one
  | nul => exact .nul
  | tup h => exact .tup (k _ _ rfl h)
  | lst h => exact .lst (k _ _ rfl h)
  | dic h => exact .dic (k _ _ rfl h)
theorem Shw.few {H : Hp} {v : V} {x : Str} (h : Shw H v x) : x.length ≤ 1000 := by
  cases h with
  | int i h hl hc => exact hl
  | _ => decide +kernel
theorem Shw.lay {H : Hp} {v : V} {x : Str} (h : Shw H v x) : PyData.canLay0 (.str x) = true := by
  cases h with
  | int i h hl hc => exact hc
  | _ => decide +kernel
def rReprV : List V → Hp → VK → Prop := fun xs H Q => ∃ v x, xs = [v] ∧ Shw H v x ∧ Q (.str x) H
section
variable {X : Cx}
theorem call_reprV (hg : X.A.guards = some []) (hu : X.A.units + 100 < cLine) : CallR X (.builtin "repr") rReprV := by
  rintro pins s σ H _ us Q I r ⟨v, x, rfl, h, q⟩
  obtain ⟨u, rfl, e⟩ := vals1 r
  cases h with
  | non =>
    cases (show u = Value.none from e)
    exact PySem.P.repr_of_none ⟨.str _, H, I.tok _, ⟨_, rfl⟩, q⟩
  | int i h hl hc =>
    obtain ⟨t, rfl⟩ := e
    exact PySem.P.repr_of_int h ⟨.str _, H, I.tok _, ⟨_, rfl⟩, q⟩
  | tru =>
    cases (show u = Value.bool true from e)
    exact PySem.P.repr_of_bool ⟨.str _, H, I.tok _, ⟨_, rfl⟩, q⟩
  | one =>
    obtain ⟨t, rfl⟩ := e
    exact PySem.P.repr_of_str ⟨.str _, H, I.tok _, ⟨_, rfl⟩, q⟩ (by rw [sizeLine_eq]; decide +kernel)
  | nul =>
    obtain ⟨t, rfl⟩ := e
    exact PySem.P.repr_of_str ⟨.str _, H, I.tok _, ⟨_, rfl⟩, q⟩ (by rw [sizeLine_eq]; decide +kernel)
  | @tup a h =>
    cases (show u = Value.ref a from e)
    obtain ⟨_, its, rv, o, e1, e2, n, e3⟩ := (show ObjOk X.prog X.w H s.heap a (.tup []) from I.hok a _ h)
    cases rv
    have R : Reads s.heap (.ref a) (.tuple []) [] := Reads.tuple e1 e2 e3 ReadsAll.nil
    exact repr_of_reads' R rfl ((nomatch ·)) hg (by show X.A.units + (1 + 1) < cLine; omega) (fun b o e => e) (fun h' u tk k => ⟨.str _, H, I.kept (t' := tk) k, ⟨_, rfl⟩, q⟩) (by rw [sizeLine_eq]; decide +kernel)
  | @lst a h =>
    cases (show u = Value.ref a from e)
    obtain ⟨z, its, n, rv, hl, ho⟩ := I.lstM h
    cases rv
    have R : Reads s.heap (.ref a) (.list []) _ := Reads.list ho rfl rfl ReadsAll.nil
    exact repr_of_reads' R rfl ((nomatch ·)) hg (by show X.A.units + (1 + 1) < cLine; omega) (fun b o e => e) (fun h' u tk k => ⟨.str _, H, I.kept (t' := tk) k, ⟨_, rfl⟩, q⟩) (by rw [sizeLine_eq]; decide +kernel)
  | @dic a h =>
    cases (show u = Value.ref a from e)
    obtain ⟨z, hs, vs, rel, ⟨o, es, ep, ho, hx, hd, hk, hp, hn⟩⟩ := dk_of I.hok h
    cases rel
    obtain ⟨esl⟩ := es
    dsimp only at hp
    cases hp
    have R : Reads s.heap (.ref a) (.dict []) _ := Reads.dict ho hx.1 hd .nil .nil
    refine repr_of_reads' R rfl (fun _ hm => ?_) hg (by show X.A.units + (1 + 1) < cLine; omega) (fun b o e => e) (fun h' u tk k => ⟨.str _, H, I.kept (t' := tk) k, ⟨_, rfl⟩, q⟩) (by rw [sizeLine_eq]; decide +kernel)
    simp only [List.append_nil, List.mem_cons, List.not_mem_nil, or_false] at hm
    rw [hm] at hs
    simp at hs
end
/-- x(), x a slot that holds a function; what is raised is wished for at the very slots -/
def tCallVS (P : Program) (w : World) (K : PySem.W.Frag) (mg : Str → Option Value) (base : Heap) (CX : CXT) (k i : Nat) (E : L2.St → XK) : TE := fun σ H Q => ∃ f G sp, σ[i]? = some (some (.ref f)) ∧ CallV P w K mg base CX k f G sp ∧ G H ∧ sp [] H Q (E σ)
theorem pe_callV0S {X : Cx} {CX : CXT} {k i : Nat} {x : Str} {E : L2.St → XK} {p pos : Pos} (hr : Room k X.A) (hx : ∀ σ, PassesAt CX X σ (E σ)) (hN : X.N[i]? = some x) (hv : Vis X.env.scope x) (hd : (x == ("__debug__" : Str)) = false := by decide) (hcd : (x == ("__classdict__" : Str)) = false := by decide) : PE X (.Call (.Name x p) [] [] pos) (tCallVS X.prog X.w X.K X.mg X.base CX k i E) := by
  refine ⟨fun pins s σ H Q I ⟨f, G, sp, hs, c, g, q⟩ => ?_⟩
  refine wpAny_Call_Name_kw (thn ((pe_var (pos := p) hN hv hd hcd).run pins s σ H (fun v H1 => v = .ref f ∧ H1 = H) I ⟨_, hs, rfl, rfl⟩) fun u s1 ⟨v, H1, I1, r1, ev, eH⟩ => ?_)
  subst ev
  subst eH
  cases (show u = Value.ref f from r1)
  exact PySem.W.callWith_F0 (first := []) (c.fn I1.hok g) (wpAny_call (codeAny_mono (c.run X.A X.stack s1 H1 [] [] Q (E σ) hr I1.env0 g .nil q) fun r s' h => match r, h with
    | .error e, h => hx σ pins H1 s1 e s' I1 h
    | .ok (.ret _), h => I1.after h
    | .ok .next, h => h.elim
    | .ok .brk, h => h.elim
    | .ok .cont, h => h.elim))
/-- the classes of errors -/
structure ErrC where
  W : Addr
  M : Addr
  B : Addr
  O : Addr
  P : Addr
  U : Addr
  N : Addr
  T : Addr
/-- the word of an error -/
inductive ErrW (c : ErrC) (H : Hp) : Value → Option Addr → Str → Prop
  | w {d} : ErrW c H (.ref c.W) d "word"
  | m {d} : ErrW c H (.ref c.M) d "machine"
  | b {d} : ErrW c H (.ref c.B) d "box"
  | o {d} : ErrW c H (.ref c.O) d "operation"
  | n {dd : Addr} {v : V} {x : Str} (h : H dd = some (.xd [("value", v)])) (s : Shw H v x) : ErrW c H (.ref c.N) (some dd) ("number " ++ x)
  | t {dd : Addr} (h : H dd = some (.xd [("limit", .int 400)])) : ErrW c H (.ref c.T) (some dd) "many 400"
/-- what the module says of them: each clause takes just its own -/
structure TErr (K : Frag) (mg : Str → Option Value) (c : ErrC) : Prop where
  gW : mg "InvalidWord" = some (.ref c.W)
  gM : mg "InvalidMachine" = some (.ref c.M)
  gB : mg "InvalidBox" = some (.ref c.B)
  gO : mg "InvalidOperation" = some (.ref c.O)
  gP : mg "ParseError" = some (.ref c.P)
  gU : mg "UnknownName" = some (.ref c.U)
  gN : mg "InvalidNumber" = some (.ref c.N)
  gT : mg "TooMany" = some (.ref c.T)
  ww : PySem.W.exmOne K (.ref c.W) (.ref c.W) = some true
  mw : PySem.W.exmOne K (.ref c.M) (.ref c.W) = some false
  mm : PySem.W.exmOne K (.ref c.M) (.ref c.M) = some true
  bw : PySem.W.exmOne K (.ref c.B) (.ref c.W) = some false
  bm : PySem.W.exmOne K (.ref c.B) (.ref c.M) = some false
  bb : PySem.W.exmOne K (.ref c.B) (.ref c.B) = some true
  ow : PySem.W.exmOne K (.ref c.O) (.ref c.W) = some false
  om : PySem.W.exmOne K (.ref c.O) (.ref c.M) = some false
  ob : PySem.W.exmOne K (.ref c.O) (.ref c.B) = some false
  oo : PySem.W.exmOne K (.ref c.O) (.ref c.O) = some true
  nw : PySem.W.exmOne K (.ref c.N) (.ref c.W) = some false
  nm : PySem.W.exmOne K (.ref c.N) (.ref c.M) = some false
  nb : PySem.W.exmOne K (.ref c.N) (.ref c.B) = some false
  no : PySem.W.exmOne K (.ref c.N) (.ref c.O) = some false
  np : PySem.W.exmOne K (.ref c.N) (.ref c.P) = some false
  nu : PySem.W.exmOne K (.ref c.N) (.ref c.U) = some false
  nn : PySem.W.exmOne K (.ref c.N) (.ref c.N) = some true
  tw : PySem.W.exmOne K (.ref c.T) (.ref c.W) = some false
  tm : PySem.W.exmOne K (.ref c.T) (.ref c.M) = some false
  tb : PySem.W.exmOne K (.ref c.T) (.ref c.B) = some false
  to : PySem.W.exmOne K (.ref c.T) (.ref c.O) = some false
  tp : PySem.W.exmOne K (.ref c.T) (.ref c.P) = some false
  tu : PySem.W.exmOne K (.ref c.T) (.ref c.U) = some false
  tn : PySem.W.exmOne K (.ref c.T) (.ref c.N) = some false
  tt : PySem.W.exmOne K (.ref c.T) (.ref c.T) = some true
  fN : XfC K c.N
  fT : XfC K c.T
  vN : PySem.W.findIn K (.ref c.N) "value" = some none
  lT : PySem.W.findIn K (.ref c.T) "limit" = some none
  repr : mg "repr" = none
  str : mg "str" = none
def spMet (P : Program) (w : World) (K : Frag) (mg : Str → Option Value) (base : Heap) (c : ErrC) (k : Nat) : Sp := fun vs H Q _ => ∃ (f : Addr) (G : Hp → Prop) (sp : Sp), vs = [.ref f] ∧ CallV P w K mg base (L2.CX P w) k f G sp ∧ G H ∧ (∀ vs H (Q Q' : VK) (E E' : XK), (∀ v H', Q v H' → Q' v H') → (∀ cls d H', E cls d H' → E' cls d H') → sp vs H Q E → sp vs H Q' E') ∧
  sp [] H (fun _ H' => Q (.str "fine") H') (fun cls d H' => ∃ wd, ErrW c H' cls d wd ∧ Q (.str wd) H')
section
variable {P : Program} {w : World} {K : PySem.W.Frag} {mg : Str → Option Value} {base : Heap} {c : ErrC} {k : Nat}
abbrev NM : List Str := ["_law_call", "e"]
theorem scMet : FnScope NM ["_law_call"] (defScope sMet) := ⟨rfl, rfl, rfl, by decide +kernel, rfl, by decide +kernel, by decide +kernel⟩
theorem names_of {X : Cx} {e : Str} {C : Addr} (h1 : X.env.scope.names.lookup e = some .globalImplicit) (h2 : X.mg e = some (.ref C)) (h3 : (e == ("__debug__" : Str)) = false := by decide) : Names X e (.ref C) := ⟨h1, h3, .inl h2⟩
theorem ok_met {fM : Addr} {fd : FuncData} (F : Fun K "_law_met" "_law_met" sMet fM fd) (T : TErr K mg c) : WG.FnG P w K mg base (k + 4) fM fd ["_law_call"] (spMet P w K mg base c k) := by
  refine WG.okG (f := fM) F scMet (fun vs H Q E h => ?_) (fun cdv A outer s H vs Q E hr hg h => ?_)
  · obtain ⟨f, G, sp, rfl, _⟩ := h
    rfl
  · obtain ⟨f, G, sp, rfl, cv, g, hsp, q⟩ := h
    have hr0 : Room k _ := hr.mono (by omega)
    have hrX : Room (k + 3) _ := hr
    have hu : (A.deeper (envOfC "_law_met" (defScope sMet) s.heap.objs.size fM cdv)).units + 100 < cLine := by
      have := hr.un
      omega
    refine ⟨_, pss_cons (TRY.ps_try_by (X := (cxOf CX0 P w K mg base NM "_law_met" (defScope sMet) _ cdv A outer s H E).nox)
        (tb := fun W D σ H => tCallVS P w K mg base (L2.CX P w) k 0 (WE W) σ H (fun _ H' => D.nx σ H'))
        rfl rfl (fun W pn xe tk _ => ?_)
        (TRY.does_cons rfl rfl (names_of rfl T.gW) (fun _ _ _ _ _ _ _ => pss_one (ps_ret pe_str))
        (TRY.does_cons rfl rfl (names_of rfl T.gM) (fun _ _ _ _ _ _ _ => pss_one (ps_ret pe_str))
        (TRY.does_cons rfl rfl (names_of rfl T.gB) (fun _ _ _ _ _ _ _ => pss_one (ps_ret pe_str))
        (TRY.does_cons rfl rfl (names_of rfl T.gO) (fun _ _ _ _ _ _ _ => pss_one (ps_ret pe_str))
        (TRY.does_as (i := 1) rfl rfl scMet.nd rfl rfl (names_of rfl T.gP) (fun _ _ _ _ _ _ _ => pss_one ps_never)
        (TRY.does_as (i := 1) rfl rfl scMet.nd rfl rfl (names_of rfl T.gU) (fun _ _ _ _ _ _ _ => pss_one ps_never)
        (TRY.does_as (i := 1) rfl rfl scMet.nd rfl rfl (names_of rfl T.gN) (fun a oe cls d pn hz hf => pss_one (ps_ret (pe_op op_add_str pe_str (pe_callB (call_reprV hg hu) (by rfl) T.repr (by decide +kernel) (pa_cons (pe_xf T.fN T.vN hz hf (pv 1)) pa_nil)))))
        (TRY.does_as (i := 1) rfl rfl scMet.nd rfl rfl (names_of rfl T.gT) (fun a oe cls d pn hz hf => pss_one (ps_ret (pe_op op_add_str pe_str (pe_callTy call_str_int (by rfl) T.str (by decide +kernel) (pa_cons (pe_xf T.fT T.lT hz hf (pv 1)) pa_nil)))))
        TRY.does_stop))))))))) (pss_one (ps_ret pe_str)), ?_⟩
    · exact pss_one (ps_expr (pe_callV0S hr0 (passAt tk) rfl (.inl rfl)))
    · refine ⟨f, G, sp, rfl, cv, g, ?_⟩
      refine hsp [] H _ _ _ _ (fun _ H' q => q) (fun cls d H' ⟨wd, ew, q⟩ => ?_) q
      cases ew with
      | w => exact ⟨true, T.ww, fun _ a ha => q, (nomatch ·)⟩
      | m => exact ⟨false, T.mw, (nomatch ·), fun _ => ⟨true, T.mm, fun _ a ha => q, (nomatch ·)⟩⟩
      | b => exact ⟨false, T.bw, (nomatch ·), fun _ => ⟨false, T.bm, (nomatch ·), fun _ => ⟨true, T.bb, fun _ a ha => q, (nomatch ·)⟩⟩⟩
      | o => exact ⟨false, T.ow, (nomatch ·), fun _ => ⟨false, T.om, (nomatch ·), fun _ => ⟨false, T.ob, (nomatch ·), fun _ => ⟨true, T.oo, fun _ a ha => q, (nomatch ·)⟩⟩⟩⟩
      | @n dd v x h s =>
        refine ⟨false, T.nw, (nomatch ·), fun _ => ⟨false, T.nm, (nomatch ·), fun _ => ⟨false, T.nb, (nomatch ·), fun _ => ⟨false, T.no, (nomatch ·), fun _ => ⟨false, T.np, (nomatch ·), fun _ => ⟨false, T.nu, (nomatch ·), fun _ => ⟨true, T.nn, fun _ a ha => ?_, (nomatch ·)⟩⟩⟩⟩⟩⟩⟩
        have hl := s.few
        exact ⟨_, rfl, rfl, rfl, dd, _, v, rfl, h, rfl, v, x, rfl, s, _, _, rfl, rfl, by rw [sizeLine_eq]; show 7 + x.length ≤ _; omega, q⟩
      | @t dd h =>
        refine ⟨false, T.tw, (nomatch ·), fun _ => ⟨false, T.tm, (nomatch ·), fun _ => ⟨false, T.tb, (nomatch ·), fun _ => ⟨false, T.to, (nomatch ·), fun _ => ⟨false, T.tp, (nomatch ·), fun _ => ⟨false, T.tu, (nomatch ·), fun _ => ⟨false, T.tn, (nomatch ·), fun _ => ⟨true, T.tt, fun _ a ha => ?_, (nomatch ·)⟩⟩⟩⟩⟩⟩⟩⟩
        exact ⟨_, rfl, rfl, rfl, dd, _, _, rfl, h, rfl, 400, rfl, by decide +kernel, _, _, rfl, rfl, by decide +kernel, q⟩
end
end WK
set_option Elab.async false
set_option linter.all false
set_option maxRecDepth 100000
set_option maxHeartbeats 8000000
namespace WK
open PySem L2 PyProof.Rows LCX K1 FV DP
open TX (sg sigs)
open PySem.W (Frag kitOne)
end WK
set_option Elab.async false
set_option linter.all false
set_option maxRecDepth 100000
set_option maxHeartbeats 8000000
namespace WK
open PySem L2 PyProof.Rows LCX K1 FV DP
open TX (sg sigs)
open PySem.W (Frag kitOne)
abbrev sNeedMs : Stmt := top 53
abbrev sNeedAll : Stmt := top 81
abbrev sNeedLs : Stmt := top 82
/-- a thing of class C is at a -/
def InsAt (C : Addr) (H : Hp) (a : Addr) : Prop := ∃ dx fs, H a = some (.ins C dx fs)
section
variable {P : Program} {w : World} {K : PySem.W.Frag} {mg : Str → Option Value} {base : Heap} {C cD cM CB cDB fNM fNB : Addr} {dNM dNB : FuncData}
theorem scNM : FnScope ["machines", "machine"] ["machines"] (defScope sNeedMs) := ⟨rfl, rfl, rfl, by decide +kernel, rfl, by decide +kernel, by decide +kernel⟩
theorem scNA : FnScope ["machines", "box"] ["machines", "box"] (defScope sNeedAll) := ⟨rfl, rfl, rfl, by decide +kernel, rfl, by decide +kernel, by decide +kernel⟩
theorem mfl_L {l t e : V} : (mfl l t e).lookup ("_letters" : Str) = some l := by
  have e1 : (("_letters" : Str) == "_table") = false := by decide +kernel
  show (match (("_letters" : Str) == "_table") with | true => some t | false => List.lookup ("_letters" : Str) [("_letters", l), ("_ends", e)]) = _
  rw [e1] <;> rfl
theorem scNS : FnScope ["machines", "box", "machine"] ["machines", "box"] (defScope sNeedLs) := ⟨rfl, rfl, rfl, by decide +kernel, rfl, by decide +kernel, by decide +kernel⟩
end
end WK
set_option Elab.async false
set_option linter.all false
set_option maxRecDepth 100000
set_option maxHeartbeats 8000000
namespace WK
open PySem L2 PyProof.Rows LCX K1 FV LamX NdefX
open TX (sg sigs)
open PySem.W (Frag kitOne)
/-- a plain value: a number, a text, a tuple, a list, a dict .. -/
inductive OV (H : Hp) : V → Prop
  | non : OV H .non
  | int (i : Int) : OV H (.int i)
  | bl (b : Bool) : OV H (.bl b)
  | str (x : Str) : OV H (.str x)
  | tup {a : Addr} {xs : List V} (h : H a = some (.tup xs)) : OV H (.ref a)
  | lst {a : Addr} {xs : List V} (h : H a = some (.lst xs)) : OV H (.ref a)
  | dic {a : Addr} {xs : List (Key × V)} (h : H a = some (.dK xs)) : OV H (.ref a)
theorem OV.to {H H' : Hp} {v : V} (h : OV H v) (k : ∀ a o, v = .ref a → H a = some o → H' a = some o) : OV H' v := by
  cases h with
  | non => exact .non
  | int i => exact .int i
  | bl b => exact .bl b
  | str x => exact .str x
  | tup h => exact .tup (k _ _ rfl h)
  | lst h => exact .lst (k _ _ rfl h)
  | dic h => exact .dic (k _ _ rfl h)
theorem OV.same {H H' : Hp} {v : V} (h : OV H v) (s : Same H H') : OV H' v := h.to fun _ _ _ e => s _ _ e
abbrev tyNames : List String := ["NoneType", "int", "bool", "str", "tuple", "list", "dict"]
theorem OV.ty {K : Frag} {H : Hp} {v : V} (h : OV H v) : ∃ t ∈ tyNames, TyX K H v (.type t) := by
  cases h with
  | non => exact ⟨"NoneType", by decide, .base .non⟩
  | int i => exact ⟨"int", by decide, .base (.int i)⟩
  | bl b => exact ⟨"bool", by decide, .base (.bl b)⟩
  | str x => exact ⟨"str", by decide, .base (.str x)⟩
  | tup h => exact ⟨"tuple", by decide, .base (.tup h)⟩
  | lst h => exact ⟨"list", by decide, .base (.lst h)⟩
  | dic h => exact ⟨"dict", by decide, .base (.dK h)⟩
theorem OV.noInt {K : Frag} {H : Hp} {v : V} (h : OV H v) : (∃ i, v = .int i) ∨ (∃ b, v = .bl b) ∨ ((∀ i, v ≠ .int i) ∧ ∃ t, TyX K H v (.type t) ∧ kitOne K (.type t) (.type "int") = some false) := by
  cases h with
  | non => exact .inr (.inr ⟨fun _ => (nomatch ·), _, .base .non, kit_ty (by decide +kernel)⟩)
  | int i => exact .inl ⟨i, rfl⟩
  | bl b => exact .inr (.inl ⟨b, rfl⟩)
  | str x => exact .inr (.inr ⟨fun _ => (nomatch ·), _, .base (.str x), kit_ty (by decide +kernel)⟩)
  | tup h => exact .inr (.inr ⟨fun _ => (nomatch ·), _, .base (.tup h), kit_ty (by decide +kernel)⟩)
  | lst h => exact .inr (.inr ⟨fun _ => (nomatch ·), _, .base (.lst h), kit_ty (by decide +kernel)⟩)
  | dic h => exact .inr (.inr ⟨fun _ => (nomatch ·), _, .base (.dK h), kit_ty (by decide +kernel)⟩)
theorem OV.text {K : Frag} {H : Hp} {v : V} (h : OV H v) : (∃ x, v = .str x) ∨ NoText K H v := by
  cases h with
  | str x => exact .inl ⟨x, rfl⟩
  | non => exact .inr ⟨_, .base .non, kit_ty (by decide +kernel)⟩
  | int i => exact .inr ⟨_, .base (.int i), kit_ty (by decide +kernel)⟩
  | bl b => exact .inr ⟨_, .base (.bl b), kit_ty (by decide +kernel)⟩
  | tup h => exact .inr ⟨_, .base (.tup h), kit_ty (by decide +kernel)⟩
  | lst h => exact .inr ⟨_, .base (.lst h), kit_ty (by decide +kernel)⟩
  | dic h => exact .inr ⟨_, .base (.dK h), kit_ty (by decide +kernel)⟩
theorem OV.tuple {K : Frag} {H : Hp} {v : V} (h : OV H v) : (∃ a xs, v = .ref a ∧ H a = some (.tup xs)) ∨ ∃ t, TyX K H v (.type t) ∧ kitOne K (.type t) (.type "tuple") = some false := by
  cases h with
  | @tup a xs h => exact .inl ⟨a, xs, rfl, h⟩
  | str x => exact .inr ⟨_, .base (.str x), kit_ty (by decide +kernel)⟩
  | non => exact .inr ⟨_, .base .non, kit_ty (by decide +kernel)⟩
  | int i => exact .inr ⟨_, .base (.int i), kit_ty (by decide +kernel)⟩
  | bl b => exact .inr ⟨_, .base (.bl b), kit_ty (by decide +kernel)⟩
  | lst h => exact .inr ⟨_, .base (.lst h), kit_ty (by decide +kernel)⟩
  | dic h => exact .inr ⟨_, .base (.dK h), kit_ty (by decide +kernel)⟩
/-- the module has such a def -/
def Has (P : Program) (w : World) (K : Frag) (mg : Str → Option Value) (base : Heap) (CX : CXT) (k : Nat) (nm : Str) (ps : List Str) (sp : Sp) : Prop := ∃ f fd, mg nm = some (.ref f) ∧ PySem.W.keepIn K (.ref f) = true ∧ L2.Binds K fd ps [] ∧ FnOk P w K mg base CX k f fd ps sp
theorem pe_has {X : Cx} {CX : CXT} {k : Nat} {nm : Str} {ps : List Str} {sp : Sp} {E : XK} {e : Expr} {es : List Expr} {t : TA} {p pos : Pos} (h : Has X.prog X.w X.K X.mg X.base CX k nm ps sp) (hr : Room k X.A) (hx : Passes CX X E) (ha : PA X (e :: es) t) (hg : Gl X nm := by rfl)
    (hdb : (nm == ("__debug__" : Str)) = false := by decide) (he : starEach (e :: es) X.env = (false, eval e X.env) :: starEach es X.env := by rfl) (hpl : (backTo pos (starEach es X.env)).any (·.1) = false := by rfl) : PE X (.Call (.Name nm p) (e :: es) [] pos) (tCall sp [] E t) := by
  obtain ⟨f, fd, g, kp, b, G⟩ := h
  exact pe_call G hr hg g kp b .nil hx ha hdb he hpl
theorem has_of {P : Program} {w : World} {K : Frag} {mg : Str → Option Value} {base : Heap} {CX : CXT} {k : Nat} {nm : Str} {st : Stmt} {f : Addr} {fd : FuncData} {ps : List Str} {sp : Sp} (A : Fn K mg nm st ps f fd) (G : FnOk P w K mg base CX k f fd ps sp) : Has P w K mg base CX k nm ps sp := ⟨f, fd, A.g, A.F.kp, A.b, G⟩
/-- an error without an __init__ of its own can be raised -/
structure Rs (K : Frag) (mg : Str → Option Value) (nm : Str) (C : Addr) : Prop where
  x : PySem.W.excIn K C [.type "ValueError", .type "Exception", .type "BaseException", .type "object"] "ValueError.__new__" = true
  g : mg nm = some (.ref C)
  k : PySem.W.keepIn K (.ref C) = true
  b : PySem.W.subIn K (.ref C) (.type "BaseException") = some true
  t : PySem.W.typeIn K (.ref C) = some (.type "type")
abbrev ntChain : List Value := [.type "RuntimeError", .type "Exception", .type "BaseException", .type "object"]
/-- InvalidNumber can be raised -/
structure RsN (P : Program) (w : World) (K : Frag) (mg : Str → Option Value) (base : Heap) (C : Addr) : Prop where
  T : WE.ErrT K C
  I : ∃ fI, WE.ErrI K C fI ntChain "RuntimeError.__new__" "value" ∧ ∃ dI, FnOk P w K mg base CX0 1 fI dI ["self", "value"] (WE.spErrI C "value") ∧ L2.Binds K dI ["self", "value"] []
  g : mg "InvalidNumber" = some (.ref C)
  b : PySem.W.subIn K (.ref C) (.type "BaseException") = some true
  t : PySem.W.typeIn K (.ref C) = some (.type "type")
def isIntB : V → Bool
  | .int _ => true
  | _ => false
def spIntV : Sp := fun vs H Q _ => ∃ v, vs = [v] ∧ OV H v ∧ Q (.bl (isIntB v)) H
def spNumV : Sp := fun vs H Q _ => ∃ v a b, vs = [v, .int a, .int b] ∧ OV H v ∧ Q (.bl (numB v a b)) H
def ErrN (cN : Addr) (v : V) (H : Hp) (E : XK) : Prop := ∀ d H', H d = none → Same H H' → H' d = some (.xd [("value", v)]) → E (.ref cN) (some d) H'
def spNN (cN : Addr) : Sp := fun vs H Q E => ∃ v a b, vs = [v, .int a, .int b] ∧ OV H v ∧ ((numB v a b = true ∧ Q .non H) ∨ (numB v a b = false ∧ ErrN cN v H E))
def spNLx (K : Frag) (cO : Addr) : Sp := fun vs H Q E => ∃ v, vs = [v] ∧ ((∃ x : Str, v = .str x ∧ x.length ≤ 1000 ∧ ((letB x = true ∧ ∀ H', Same H H' → Q .non H') ∨ (letB x = false ∧ ∀ H', Same H H' → E (.ref cO) none H'))) ∨ (NoText K H v ∧ E (.ref cO) none H))
def spNWx (K : Frag) (cW : Addr) : Sp := fun vs H Q E => ∃ v, vs = [v] ∧ ((∃ x : Str, v = .str x ∧ ((wordB x = true ∧ Q .non H) ∨ (wordB x = false ∧ E (.ref cW) none H))) ∨ (NoText K H v ∧ E (.ref cW) none H))
def ovrB (L u : W) : Bool := (sigs u).all fun c => decide (c ∈ L)
def spOvr : Sp := fun vs H Q _ => ∃ L u : W, vs = [.str (tx L), .str (tx u)] ∧ u.length < 64 ∧ ∀ H', Same H H' → Q (.bl (ovrB L u)) H'
def spNOx (cO : Addr) : Sp := fun vs H Q E => ∃ L u : W, vs = [.str (tx L), .str (tx u)] ∧ u.length < 64 ∧ ((ovrB L u = true ∧ ∀ H', Same H H' → Q .non H') ∨ (ovrB L u = false ∧ ∀ H', Same H H' → E (.ref cO) none H'))
section
variable {P : Program} {w : World} {K : PySem.W.Frag} {mg : Str → Option Value} {base : Heap} {cN cO cW : Addr}
theorem ok_intV {f : Addr} {fd : FuncData} (F : Fun K "is_integer" "is_integer" sIsInt f fd) (T : TN mg) : FnOk P w K mg base CX0 1 f fd ["value"] spIntV := by
  refine F.ok scII (fun vs H Q E h => ?_) (fun cdv A outer s H vs Q E hr h => ?_)
  · obtain ⟨v, rfl, _⟩ := h
    rfl
  · obtain ⟨v, rfl, ov, q⟩ := h
    refine ⟨_, pss_one (ps_ret (pe_and (pe_callB call_isi (by rfl) T.isi (by decide +kernel) (pa_cons (pv 0) (pa_cons (pe_ty "int" T.int (by decide +kernel)) pa_nil)))
      (pe_one (pe_not (pe_callB call_isi (by rfl) T.isi (by decide +kernel) (pa_cons (pv 0) (pa_cons (pe_ty "bool" T.bool (by decide +kernel)) pa_nil))))))), ?_⟩
    rcases ov.noInt (K := K) with ⟨i, rfl⟩ | ⟨b, rfl⟩ | ⟨ni, t, ty, hk⟩
    · refine ⟨_, rfl, _, _, _, _, true, rfl, .ty "int", .base (.int _), kit_ty (by decide +kernel), true, rfl, ?_⟩
      exact ⟨_, rfl, _, _, _, _, false, rfl, .ty "bool", .base (.int _), kit_ty (by decide +kernel), false, rfl, q⟩
    · refine ⟨_, rfl, _, _, _, _, true, rfl, .ty "int", .base (.bl _), kit_ty (by decide +kernel), true, rfl, ?_⟩
      exact ⟨_, rfl, _, _, _, _, true, rfl, .ty "bool", .base (.bl _), kit_ty (by decide +kernel), true, rfl, q⟩
    · refine ⟨_, rfl, _, _, _, _, false, rfl, .ty "int", ty, hk, false, rfl, ?_⟩
      have e : isIntB v = false := by cases v <;> first | rfl | exact absurd rfl (ni _)
      rw [e] at q
      exact q
theorem ok_numV {f : Addr} {fd : FuncData} (F : Fun K "is_number" "is_number" sIsNum f fd) (hI : Has P w K mg base CX0 1 "is_integer" ["value"] spIntV) : FnOk P w K mg base CX0 2 f fd ["value", "least", "most"] spNumV := by
  refine F.ok scIN (fun vs H Q E h => ?_) (fun cdv A outer s H vs Q E hr h => ?_)
  · obtain ⟨v, a, b, rfl, _⟩ := h
    rfl
  · obtain ⟨v, a, b, rfl, ov, q⟩ := h
    refine ⟨_, pss_one (ps_ret (pe_and (pe_has hI hr pass0 (pa_cons (pv 0) pa_nil)) (pe_one (pe_chain op_le op_le (pv 1) (pv 0) (pv 2))))), ?_⟩
    refine ⟨_, rfl, v, rfl, ov, ?_⟩
    rcases ov.noInt (K := K) with ⟨i, rfl⟩ | ⟨c, rfl⟩ | ⟨ni, _⟩
    · refine ⟨true, rfl, _, rfl, _, rfl, _, _, rfl, rfl, _, rfl, ?_⟩
      have q : Q (.bl (decide (a ≤ i) && decide (i ≤ b))) H := q
      by_cases h1 : a ≤ i
      · rw [decide_eq_true h1] at q ⊢
        exact ⟨_, rfl, _, _, rfl, rfl, q⟩
      · rw [decide_eq_false h1] at q ⊢
        exact q
    · exact ⟨false, rfl, q⟩
    · have e : isIntB v = false := by cases v <;> first | rfl | exact absurd rfl (ni _)
      have e2 : numB v a b = false := by cases v <;> first | rfl | exact absurd rfl (ni _)
      rw [e]
      rw [e2] at q
      exact ⟨false, rfl, q⟩
theorem ok_nn {f : Addr} {fd : FuncData} (F : Fun K "need_number" "need_number" sNeedNum f fd) (hN : Has P w K mg base CX0 2 "is_number" ["value", "least", "most"] spNumV) (R : RsN P w K mg base cN) : FnOk P w K mg base (L2.CX P w) 3 f fd ["value", "least", "most"] (spNN cN) := by
  obtain ⟨T, ⟨fI, EI, dI, GI, bI⟩, gN, bN, tN⟩ := R
  refine F.okX scNN (fun vs H Q E h => ?_) (fun cdv A outer s H vs Q E hr h => ?_)
  · obtain ⟨v, a, b, rfl, _⟩ := h
    rfl
  · obtain ⟨v, a, b, rfl, ov, h⟩ := h
    refine ⟨_, pss_one (ps_if (pt_not (pt_val (pe_has hN hr pass0 (pa_cons (pv 0) (pa_cons (pv 1) (pa_cons (pv 2) pa_nil)))))) (pss_one (ps_raise rfl (takes_of rfl rfl rfl rfl) (WE.pmk_errI (WE.MakesBy.of PySem.F.excBase_RuntimeError) T EI (raises_own bN tN) GI hr bI gN (pa_cons (pv 0) pa_nil)))) pss_nil), ?_⟩
    refine ⟨_, rfl, _, rfl, _, rfl, _, _, _, rfl, ov, ?_⟩
    rcases h with ⟨e, q⟩ | ⟨e, q⟩
    · rw [e]
      exact ⟨_, rfl, q⟩
    · rw [e]
      exact ⟨_, rfl, _, rfl, v, rfl, fun d H2 n s2 e2 => q d H2 n s2 e2⟩
theorem ok_nlx {f : Addr} {fd : FuncData} (F : Fun K "need_letters" "need_letters" sNeedLet f fd) (hL : Has P w K mg base CX0 2 "is_letters" ["value"] (spIsLet K)) (R : Rs K mg "InvalidOperation" cO) : FnOk P w K mg base (L2.CX P w) 3 f fd ["letters"] (spNLx K cO) := by
  refine F.okX scNL (fun vs H Q E h => ?_) (fun cdv A outer s H vs Q E hr h => ?_)
  · obtain ⟨v, rfl, _⟩ := h
    rfl
  · obtain ⟨v, rfl, h⟩ := h
    refine ⟨_, pss_one (ps_if (pt_not (pt_val (pe_has hL hr pass0 (pa_cons (pv 0) pa_nil)))) (pss_one (ps_raise rfl (takes_of rfl rfl rfl rfl) (pmk_own PySem.F.excBase_ValueError R.x R.g R.k (raises_own R.b R.t) rfl))) pss_nil), ?_⟩
    rcases h with ⟨x, rfl, hx, h⟩ | ⟨hn, q⟩
    · refine ⟨_, rfl, _, rfl, .inl ⟨x, rfl, hx, fun H' s1 => ⟨_, rfl, ?_⟩⟩⟩
      rcases h with ⟨e, q⟩ | ⟨e, q⟩ <;> rw [e] <;> exact q H' s1
    · exact ⟨_, rfl, _, rfl, .inr ⟨hn, _, rfl, q⟩⟩
theorem ok_nwx {f : Addr} {fd : FuncData} (F : Fun K "need_word" "need_word" sNeedWord f fd) (hW : Has P w K mg base CX0 1 "is_word" ["value"] (spIsWord K)) (R : Rs K mg "InvalidWord" cW) : FnOk P w K mg base (L2.CX P w) 2 f fd ["word"] (spNWx K cW) := by
  refine F.okX scNW (fun vs H Q E h => ?_) (fun cdv A outer s H vs Q E hr h => ?_)
  · obtain ⟨v, rfl, _⟩ := h
    rfl
  · obtain ⟨v, rfl, h⟩ := h
    refine ⟨_, pss_one (ps_if (pt_not (pt_val (pe_has hW hr pass0 (pa_cons (pv 0) pa_nil)))) (pss_one (ps_raise rfl (takes_of rfl rfl rfl rfl) (pmk_own PySem.F.excBase_ValueError R.x R.g R.k (raises_own R.b R.t) rfl))) pss_nil), ?_⟩
    rcases h with ⟨x, rfl, h⟩ | ⟨hn, q⟩
    · refine ⟨_, rfl, _, rfl, .inl ⟨x, rfl, _, rfl, ?_⟩⟩
      rcases h with ⟨e, q⟩ | ⟨e, q⟩ <;> rw [e] <;> exact q
    · exact ⟨_, rfl, _, rfl, .inr ⟨hn, _, rfl, q⟩⟩
theorem ok_ovr {f : Addr} {fd : FuncData} (F : Fun K "is_over" "is_over" sIsOver f fd) (T : TN mg) : FnOk P w K mg base CX0 1 f fd ["letters", "word"] spOvr := by
  refine F.ok scIO (fun vs H Q E h => ?_) (fun cdv A outer s H vs Q E hr h => ?_)
  · obtain ⟨L, u, rfl, _⟩ := h
    rfl
  · obtain ⟨L, u, rfl, hu, q⟩ := h
    refine ⟨_, pss_one (ps_ret (pe_callB (cr_all rfl) (by rfl) T.all (by decide +kernel) (pa_cons (pe_lc (own := [("letter", 2)]) (g := gName 2) (tt := tYes) rfl scIO.nd
      (pi_list (pe_callB (TX.cr_sortX rfl) (by rfl) T.sorted (by decide +kernel) (pa_cons (pe_callTy (TX.call_setX rfl) (by rfl) T.set (by decide +kernel) (pa_cons (pv 1) pa_nil)) pa_nil)))
      (blkOk_by (own := [("letter", 2)]) (N := ["letters", "word", "letter"]) (sc := defScope sIsOver) (by decide +kernel)) (fun _ _ _ _ _ => pg_name (i := 2) scIO.nd rfl (Or.inl rfl)) (fun _ _ _ _ _ => pts_nil)
      (fun _ _ _ _ _ => pe_cmpR op_in_sign (pv 2) (pv 0) rfl)) pa_nil))), ?_⟩
    have hz : (tx u).cps.size < 64 := by rw [size_tx]; exact hu
    refine ⟨_, rfl, tx u, rfl, hz, fun a o ha ho => ?_⟩
    refine ⟨a, tx u, o, rfl, upd_same, ho, hz, fun p hp => ?_⟩
    rw [tx_list]
    refine ⟨p, rfl, ⟨_, SqL.of upd_same⟩, fun D hD => ?_⟩
    have sp : Same H (upd (upd H a o) p (.lst ((sigs u).map fun c => V.str (sg c)))) := same_two (same_upd ha) hp
    have hq : (upd (upd H a o) p (.lst ((sigs u).map fun c => V.str (sg c)))) p = some (.lst ((sigs u).map fun c => V.str (sg c))) := upd_same
    generalize upd (upd H a o) p (.lst ((sigs u).map fun c => V.str (sg c))) = G at sp hq hD ⊢
    refine lc_list (xs := (sigs u).map fun c => V.str (sg c)) (fun i H1 => Same G H1 ∧ H1 D = some (.lst ((((sigs u).take i).map fun c => decide (c ∈ L)).map V.bl))) ⟨same_upd hD, upd_same⟩ (fun i H1 _ ⟨s1, _⟩ => SqL.of (s1 _ _ hq)) ?_ ?_
    · rintro i x H1 hx ⟨s1, hd⟩
      rw [List.getElem?_map] at hx
      cases hc : (sigs u)[i]? with
      | none => rw [hc] at hx; cases hx
      | some c =>
        rw [hc] at hx
        obtain rfl : V.str (sg c) = x := Option.some.inj hx
        have hi : i < (sigs u).length := (List.getElem?_eq_some_iff.mp hc).1
        have hi2 := TX.len_sigs u
        refine ⟨rfl, _, rfl, _, rfl, c, tx L, rfl, rfl, _, hd, ?_, same_at s1 hD, ?_⟩
        · rw [List.length_map, List.length_map, List.length_take, sizeLine_eq]
          omega
        · rw [upd_same, tx_list, List.take_add_one, hc, List.map_append, List.map_append] <;> rfl
    · rintro H1 ⟨s1, hd⟩
      rw [List.length_map, List.take_length] at hd
      refine ⟨D, _, rfl, SqL.of hd, ?_⟩
      rw [List.all_map]
      exact q _ (sp.trans s1)
theorem ok_nox {f : Addr} {fd : FuncData} (F : Fun K "need_over" "need_over" sNeedOver f fd) (hO : Has P w K mg base CX0 1 "is_over" ["letters", "word"] spOvr) (R : Rs K mg "InvalidOperation" cO) : FnOk P w K mg base (L2.CX P w) 2 f fd ["letters", "word"] (spNOx cO) := by
  refine F.okX scNO (fun vs H Q E h => ?_) (fun cdv A outer s H vs Q E hr h => ?_)
  · obtain ⟨L, u, rfl, _⟩ := h
    rfl
  · obtain ⟨L, u, rfl, hu, h⟩ := h
    refine ⟨_, pss_one (ps_if (pt_not (pt_val (pe_has hO hr pass0 (pa_cons (pv 0) (pa_cons (pv 1) pa_nil))))) (pss_one (ps_raise rfl (takes_of rfl rfl rfl rfl) (pmk_own PySem.F.excBase_ValueError R.x R.g R.k (raises_own R.b R.t) rfl))) pss_nil), ?_⟩
    refine ⟨_, rfl, _, rfl, L, u, rfl, hu, fun H' s1 => ⟨_, rfl, ?_⟩⟩
    rcases h with ⟨e, q⟩ | ⟨e, q⟩ <;> rw [e] <;> exact q H' s1
end
end WK
set_option Elab.async false
set_option linter.all false
set_option maxRecDepth 100000
set_option maxHeartbeats 8000000
namespace FV
open PySem PySem.Spec PyProof.Rows L2 LamX NdefX
section
variable {P : Program} {w : World} {cs : Cs} {outer : List Env} {s s' : Shared} {H : Hp} {E : XK} {e : Value}
/-- what a call that was told of the cells raised, told without them -/
theorem cx_off (n : ∀ p ∈ cs, H p.1 = none) (at_ : ∀ p ∈ cs, s.heap.get? p.1 = some p.2) (h : L2.CX P w outer (onn cs H) s (fun cls d H' => Lay cs H' ∧ E cls d (off cs H')) e s') : L2.CX P w outer H s E e s' := by
  obtain ⟨a, B, H', cls, d, rfl, fl, okB, ub, na, os, bare, l, q⟩ := h
  have out : ∀ {d : Addr} {o : HO}, H d = some o → d ∉ cs.map (·.1) := fun {d o} q z => by
    obtain ⟨p, hp, rfl⟩ := List.mem_map.mp z
    rw [n p hp] at q
    cases q
  refine ⟨a, B, off cs H', cls, d, rfl, fl, hok_off okB l, ⟨fun b o e nb hb => ?_, ub.slot, fun b o e nb => ?_, ub.there, fun b xs e => ?_, fun b o v e => ?_, fun b ps e => ?_⟩, ?_, os, bare, q⟩
  · by_cases hc : b ∈ cs.map (·.1)
    · obtain ⟨p, hp, rfl⟩ := List.mem_map.mp hc
      rw [lay_at okB l p hp, ← e, at_ p hp]
    · exact ub.keep b o e (by rw [onn_out hc]; exact nb) hb
  · by_cases hc : b ∈ cs.map (·.1)
    · exact off_in hc
    · rw [off_out hc]
      exact ub.free b o e (by rw [onn_out hc]; exact nb)
  · have y := ub.tups b xs (by rw [onn_out (out e)]; exact e)
    rw [off_out (lay_not l y fun _ z => nomatch z)]
    exact y
  · have y := ub.frzs b o v (by rw [onn_out (out e)]; exact e)
    rw [off_out (lay_not l y fun _ z => nomatch z)]
    exact y
  · obtain ⟨more, y⟩ := ub.tbls b ps (by rw [onn_out (out e)]; exact e)
    exact ⟨more, by rw [off_out (lay_not l y fun _ z => nomatch z)]; exact y⟩
  · by_cases hc : a ∈ cs.map (·.1)
    · exact off_in hc
    · rw [off_out hc]
      exact na
end
/-- such a call, which may raise -/
def tCallCX (cl : List (Str × Addr)) (fr : List Str) (js : List Nat) (sp : Sp) (E : XK) (t : TA) : TE := fun σ H Q => t σ H fun vs H1 => ∃ vals : List V, js.map (fun j => σ[j]?) = vals.map (fun v => some (some v)) ∧
  ∀ cs, Fits cl fr cs vals → (∀ p ∈ cs, H1 p.1 = none) → sp vs (onn cs H1) (fun v H' => Lay cs H' ∧ Q v (off cs H')) (fun cls d H' => Lay cs H' ∧ E cls d (off cs H'))
section
variable {X : Cx} {k : Nat} {f : Addr} {fd : FuncData} {ps : List Str} {sp : Sp} {x : Str} {p pos : Pos} {e : Expr} {es : List Expr} {t : TA} {cl : List (Str × Addr)} {fr : List Str} {js : List Nat} {E : XK}
theorem pe_callCX (F : FnOk X.prog X.w X.K X.mg X.base (L2.CX X.prog X.w) k f fd ps sp) (hr : Room k X.A) (hx : Passes (L2.CX X.prog X.w) X E) (hg : Gl X x) (hm : X.mg x = some (.ref f)) (hk : PySem.W.keepIn X.K (.ref f) = true) (hb : Binds X.K fd ps [])
    (cp : X.Ok → Caps X cl fr js) (only : ∀ (y : Str) (c : Addr), cl.lookup y = some c → y ∈ fr) (nd : fr.Nodup) (own : ∀ y ∈ fr, X.fn y = true) (ha : PA X (e :: es) t) (hdb : (x == ("__debug__" : Str)) = false := by decide)
    (he : starEach (e :: es) X.env = (false, eval e X.env) :: starEach es X.env := by rfl) (hpl : (backTo pos (starEach es X.env)).any (·.1) = false := by rfl) : PE X (.Call (.Name x p) (e :: es) [] pos) (tCallCX cl fr js sp E t) := by
  refine ⟨fun pins s σ H Q I h => wpAny_Call_Name_kw (ld_glob I hg hm (PySem.W.callWith_K (h₀ := X.base) I.ok.mod.kin hk (thn (ha.run pos pins s σ H _ I h) fun us s1 ⟨vs, H1, I1, r, vals, hv, q⟩ => ⟨I1.kIn, ?_⟩) he hpl) hdb)⟩
  obtain ⟨cs, ft, hcs⟩ := fits_of I1 (cp I1.ok) only nd hv
  have none_ : ∀ p ∈ cs, H1 p.1 = none := fun p hp => (hcs p hp).1
  have at_ : ∀ p ∈ cs, s1.heap.get? p.1 = some p.2 := fun p hp => (hcs p hp).2.1
  have e0 := env0_on I1 ft.nd none_ at_ fun p hp => let ⟨y, hy, e⟩ := (hcs p hp).2.2; ⟨I1.ok.cab y p.1 (own y hy) e, I1.cne y p.1 e⟩
  have q := q cs ft none_
  have hl : us.length = ps.length := by rw [← r.length]; exact F.len _ _ _ _ q
  have hb2 := hb s1 us I1.kIn (by rw [List.append_nil]; exact hl)
  rw [List.append_nil] at hb2
  refine wpAny_call (codeAny_mono (F.run X.A X.stack s1 (onn cs H1) ⟨us, []⟩ us vs _ _ hr e0 hb2 r q) fun r s' h => ?_)
  exact match r, h with
    | .error er, h => hx pins σ H1 s1 er s' I1 (cx_off none_ at_ h)
    | .ok (.ret _), h => I1.after (let ⟨v, H', os, bare, un, ok, rv, l, qv⟩ := h; ⟨v, off cs H', os, bare, un_off un ft.nd none_ at_ ok l, hok_off ok l, rv, qv⟩)
    | .ok .next, h => h.elim
    | .ok .brk, h => h.elim
    | .ok .cont, h => h.elim
end
end FV
namespace WK
open PySem L2 PyProof.Rows LCX K1 FV DP
open TX (sg sigs)
open PySem.W (Frag kitOne)
abbrev oeChain : List Value := [.type "OverflowError", .type "ArithmeticError", .type "Exception", .type "BaseException", .type "object"]
/-- TooMany can be raised -/
structure RsT (P : Program) (w : World) (K : Frag) (mg : Str → Option Value) (base : Heap) (C : Addr) : Prop where
  T : WE.ErrT K C
  I : ∃ fI, WE.ErrI K C fI oeChain "OverflowError.__new__" "limit" ∧ ∃ dI, FnOk P w K mg base CX0 1 fI dI ["self", "limit"] (WE.spErrI C "limit") ∧ L2.Binds K dI ["self", "limit"] []
  g : mg "TooMany" = some (.ref C)
  b : PySem.W.subIn K (.ref C) (.type "BaseException") = some true
  t : PySem.W.typeIn K (.ref C) = some (.type "type")
section
variable {α : Type} [DecidableEq α]
theorem exAll_mono (f : α → Nat → α) (L : W) (start : α) (j : Nat) : ∀ m, (exAll f L start j).1.length ≤ (exAll f L start (j + m)).1.length
  | 0 => Nat.le_refl _
  | m + 1 => Nat.le_trans (exAll_mono f L start j m) (by
    show _ ≤ (match (exAll f L start (j + m)).1[j + m]? with | some key => _ | none => _ : List α × List (List Int)).1.length
    cases (exAll f L start (j + m)).1[j + m]? with
    | none => exact Nat.le_refl _
    | some key => exact (exFold_grows f key L (_, [])).length_le)
/-- the error that there would be more than 400 -/
def ManyE (cT : Addr) (H : Hp) (E : XK) : Prop := ∀ d H', H d = none → Same H H' → H' d = some (.xd [("limit", .int 400)]) → E (.ref cT) (some d) H'
def spExplR (P : Program) (w : World) (K : Frag) (mg : Str → Option Value) (base : Heap) (kit : Kit α) (kf : Nat) (cT : Addr) : Sp := fun vs H _ E =>
  ∃ (L : W) (v0 : V) (start : α) (fa : Addr) (G : Hp → Prop) (sp : Sp) (f : α → Nat → α) (ok : α → Prop) (J : Nat), vs = [.str (tx L), v0, .ref fa, .int 400] ∧ L.length ≤ 3 ∧ kit.is H v0 start ∧ CallV P w K mg base CX0 kf fa G sp ∧ G H ∧
    (∀ H H', KeepsExt H H' → G H → G H') ∧ ok start ∧ (∀ a c, ok a → c ∈ L → ok (f a c)) ∧
    (∀ (H : Hp) (v : V) (a : α) (c : Nat) (Q : VK), G H → kit.is H v a → ok a → c ∈ L → (∀ v' H', Same H H' → kit.is H' v' (f a c) → Q v' H') → sp [v, .str (sg c)] H Q E0) ∧ 400 < (exAll f L start J).1.length ∧ ManyE cT H E
end
section
variable {α : Type} [DecidableEq α] {P : Program} {w : World} {K : PySem.W.Frag} {mg : Str → Option Value} {base : Heap} {kit : Kit α} {kf : Nat} {cT : Addr}
theorem ok_explR {f : Addr} {oc kV dc pm ct cd dV : Value} {an od : Option Addr} {sl : Array (Option Value)} (lk : K.lookup f = some ⟨oc, od, .func (PySem.W.fnOf "explored" "explored" (defArgs sExpl) (defBody sExpl) (defScope sExpl) dV kV dc pm an cd ct), sl⟩) (hcd : PySem.W.codeIn K cd "explored" = true) (T : TN mg) (R0 : RsT P w K mg base cT) : FnOk P w K mg base (L2.CX P w) (kf + 2 + 1) f (PySem.W.fnOf "explored" "explored" (defArgs sExpl) (defBody sExpl) (defScope sExpl) dV kV dc pm an cd ct) ["signs", "start", "step", "most"] (spExplR P w K mg base kit kf cT) := by
  obtain ⟨eT, ⟨fI, EI, dI, GI, bI⟩, gT, bT, tT⟩ := R0
  refine fn_of (CX := L2.CX P w) lk hcd scEx (fun vs H Q E h => ?_) (fun A outer s H vs Q E hr h => ?_)
  · obtain ⟨L, v0, start, fa, G, sp, fn, ok, J, rfl, _⟩ := h
    rfl
  · obtain ⟨L, v0, start, fa, G, sp, fn, ok, J, rfl, hL, is0, cv, g0, gk, ok0, okc, hstep, hJ, q⟩ := h
    have hr1 : Room kf _ := hr.mono (by omega)
    have hr2 : Room 2 _ := hr.mono (by omega)
    have hub := hu_of hr
    refine ⟨_, pss_cons (ps_set (i := 4) scEx.nd rfl (Or.inl rfl) (pe_lst (pa_cons (pv 1) pa_nil)))
      (pss_cons (ps_set (i := 5) scEx.nd rfl (Or.inl rfl) (pe_disp1 (Nat.lt_of_succ_lt hub) (pv 1) pe_int))
      (pss_cons (ps_set (i := 6) scEx.nd rfl (Or.inl rfl) (pe_lst pa_nil))
      (pss_cons (ps_while (passes_of rfl) (pt_cmpR op_lt (pe_callB call_len_seq (by rfl) T.len PySem.boot_len (pa_cons (pv 6) pa_nil)) (pe_callB call_len_seq (by rfl) T.len PySem.boot_len (pa_cons (pv 4) pa_nil)) (nomark _))
        (pss_cons (ps_set (i := 7) scEx.nd rfl (Or.inl rfl) (pe_ix ix_list (pv 4) (pe_callB call_len_seq (by rfl) T.len PySem.boot_len (pa_cons (pv 6) pa_nil)) (fun _ _ => rfl)))
        (pss_cons (ps_set (i := 8) scEx.nd rfl (Or.inl rfl) (pe_lst pa_nil))
        (pss_cons (ps_for (passes_of rfl) rfl (pi_str (pv 0)) (pg_name (i := 9) scEx.nd rfl (Or.inl rfl))
          (pss_cons (ps_set (i := 10) scEx.nd rfl (Or.inl rfl) (pe_callV (i := 2) (CX := CX0) (E := E0) hr1 pass0 rfl (.inl rfl) (pa_cons (pv 7) (pa_cons (pv 9) pa_nil))))
          (pss_cons (ps_if (pt_cmp (pc_dnotin hub (pv 10) (pv 5)))
              (pss_cons (ps_if (pt_cmpR op_eq (pe_callB call_len_seq (by rfl) T.len PySem.boot_len (pa_cons (pv 4) pa_nil)) (pv 3) (nomark _)) (pss_one (ps_raise rfl (takes_of rfl rfl rfl rfl) (WE.pmk_errI (WE.MakesBy.of PySem.F.excBase_OverflowError) eT EI (raises_own bT tT) GI hr2 bI gT (pa_cons (pv 3) pa_nil)))) pss_nil)
              (pss_cons (ps_dput hub (pv 5) (pv 10) (pe_callB call_len_seq (by rfl) T.len PySem.boot_len (pa_cons (pv 4) pa_nil)) rfl)
              (pss_one (ps_expr (pe_bm PySem.F.plainAttrs_list PySem.F.slot_list_append PySem.F.type_list_append mt_append (pv 4) (pa_cons (pv 10) pa_nil)))))) pss_nil)
          (pss_one (ps_expr (pe_bm PySem.F.plainAttrs_list PySem.F.slot_list_append PySem.F.type_list_append mt_append (pv 8) (pa_cons (pe_dget hub (pv 5) (pv 10) (fun _ _ => rfl)) pa_nil)))))))
        (pss_one (ps_expr (pe_bm PySem.F.plainAttrs_list PySem.F.slot_list_append PySem.F.type_list_append mt_append (pv 6) (pa_cons (pe_callTy call_tuple_of (by rfl) T.tuple (by decide +kernel) (pa_cons (pv 8) pa_nil)) pa_nil))))))))
      (pss_one (ps_ret (pe_tup (pa_cons (pv 4) (pa_cons (pe_callTy call_tuple_of (by rfl) T.tuple (by decide +kernel) (pa_cons (pv 6) pa_nil)) pa_nil)))))))), ?_⟩
    have hmo := exAll_mono fn L start J
    generalize hst : exAll fn L start = st at hJ hmo
    have hz : st 0 = ([start], []) := by rw [← hst] <;> rfl
    have hnx : ∀ (j : Nat) (key : α), (st j).1[j]? = some key → st (j + 1) = ((L.foldl (exSign fn key) ((st j).1, [])).1, (st j).2 ++ [(L.foldl (exSign fn key) ((st j).1, [])).2]) := by
      intro j key e
      have e2 := exAll_at (f := fn) (L := L) (start := start) (j := j) (by rw [hst]; exact e)
      rw [hst] at e2
      exact e2
    have hsp : ∀ (j m : Nat), (st j).1.length ≤ j → st (j + m) = st j := by
      intro j m h
      rw [← hst] at h ⊢
      exact exAll_stop h m
    refine ⟨_, rfl, (by show 1 ≤ sizeLine; decide), fun M hM => ?_⟩
    refine ⟨kit.ho [], kit.emp, fun D hD => ⟨_, rfl, _, kit.put (l := []) upd_same (kit.keep is0 (fun b xs e => (same_two (same_upd hM) hD) _ _ e)) List.not_mem_nil (by show 0 < sizeLine; decide), ?_⟩⟩
    rw [upd_upd]
    have nD : H D = none := (same_upd hM).free hD
    have nMD : M ≠ D := fun z => by rw [← z, upd_same] at hD; cases hD
    refine ⟨by show 0 ≤ sizeLine; decide, fun R hR => ?_⟩
    have s0 : Same H (upd (upd (upd H M (.lst [v0])) D (kit.ho [start])) R (.lst [])) := same_two (same_two (same_upd hM) hD) hR
    have nMR : M ≠ R := fun z => by rw [← z, upd_ne nMD, upd_same] at hR; cases hR
    have nDR : D ≠ R := fun z => by rw [← z, upd_same] at hR; cases hR
    have nR : H R = none := (same_two (same_upd hM) hD).free hR
    refine while_by (fun σ H2 => ∃ (j : Nat) (vs : List V) (ts : List Addr) (x7 x8 x9 x10 : Option V), Same H H2 ∧ H2 M = some (.lst vs) ∧ Are kit H2 vs (st j).1 ∧ H2 D = some (kit.ho (st j).1) ∧ H2 R = some (.lst (ts.map V.ref)) ∧ Objs oTup H2 ts (st j).2 ∧ ts.length = j ∧ j ≤ (st j).1.length ∧ (st j).1.length ≤ 400 ∧ (∀ a ∈ (st j).1, ok a) ∧
      σ = [some (.str (tx L)), some v0, some (.ref fa), some (.int 400), some (.ref M), some (.ref D), some (.ref R), x7, x8, x9, x10]) (fun _ H2 => 400 - (match H2 R with | some (.lst xs) => xs.length | _ => 0)) ?_ ?_ ?_
    · refine ⟨0, [v0], [], none, none, none, none, s0, ?_, ?_, ?_, upd_same, ?_, rfl, Nat.zero_le _, by rw [hz]; show 1 ≤ 400; decide, ?_, rfl⟩
      · rw [upd_ne nMR, upd_ne nMD, upd_same]
      · rw [hz]
        exact ⟨kit.keep is0 fun b xs e => s0 _ _ e, trivial⟩
      · rw [upd_ne nDR, upd_same, hz] <;> rfl
      · rw [hz]
        exact trivial
      · rw [hz]
        intro a ha
        rw [List.mem_singleton.mp ha]
        exact ok0
    · rintro σ H2 ⟨j, vs, ts, x7, x8, x9, x10, s2, hm, are, hd, hr2, objs, hts, hle, h400, oks, rfl⟩
      have hvl := are.len
      refine ⟨_, rfl, R, _, rfl, .inl (SqL.of hr2), _, rfl, M, _, rfl, .inl (SqL.of hm), _, _, rfl, rfl, _, rfl, ?_⟩
      rw [List.length_map, hts, hvl]
      refine ite2 (fun hlt => ?_) (fun hge => ?_)
      · have hlt : ((j : Nat) : Int) < (((st j).1.length : Nat) : Int) := of_decide_eq_true hlt
        have hlt : j < (st j).1.length := by omega
        obtain ⟨key, hkey⟩ : ∃ key, (st j).1[j]? = some key := ⟨_, List.getElem?_eq_getElem hlt⟩
        obtain ⟨v, hv, isv⟩ := are.get hkey
        have okk : ok key := oks _ (List.mem_of_getElem? hkey)
        have hstep1 := hnx j key hkey
        refine ⟨_, rfl, _, rfl, R, _, rfl, .inl (SqL.of hr2), M, _, _, _, rfl, rfl, SqL.of hm, by rw [List.length_map, hts]; exact atI_nat hv, ?_⟩
        refine ⟨by show 0 ≤ sizeLine; decide, fun RW hRW => ?_⟩
        have nRW : H RW = none := s2.free hRW
        have nMW : M ≠ RW := fun z => by rw [← z, hm] at hRW; cases hRW
        have nDW : D ≠ RW := fun z => by rw [← z, hd] at hRW; cases hRW
        have nRR : R ≠ RW := fun z => by rw [← z, hr2] at hRW; cases hRW
        generalize hks : (st j).1 = ks at hkey h400 hstep1 hlt hle are hd oks hvl
        generalize hrs : (st j).2 = rs at objs hstep1
        have kt0 : KeepsTup H2 (upd H2 RW (.lst [])) := Same.tup' (same_upd hRW)
        refine ⟨_, rfl, tx L, rfl, ?_⟩
        refine for_it walk_str (fun i σ H3 => ∃ (vs : List V) (x9 x10 : Option V), Same H H3 ∧ H3 M = some (.lst vs) ∧ Are kit H3 vs ((L.take i).foldl (exSign fn key) (ks, [])).1 ∧ H3 D = some (kit.ho ((L.take i).foldl (exSign fn key) (ks, [])).1) ∧ H3 R = some (.lst (ts.map V.ref)) ∧ Objs oTup H3 ts rs ∧ kit.is H3 v key ∧
            H3 RW = some (.lst (((L.take i).foldl (exSign fn key) (ks, [])).2.map V.int)) ∧ ((L.take i).foldl (exSign fn key) (ks, [])).2.length = i ∧ ((L.take i).foldl (exSign fn key) (ks, [])).1.length ≤ 400 ∧ (∀ a ∈ ((L.take i).foldl (exSign fn key) (ks, [])).1, ok a) ∧
            σ = [some (.str (tx L)), some v0, some (.ref fa), some (.int 400), some (.ref M), some (.ref D), some (.ref R), some v, some (.ref RW), x9, x10]) ?_ (fun _ _ _ _ _ => trivial) ?_ ?_
        · refine ⟨vs, x9, x10, s2.trans (same_upd hRW), same_upd hRW _ _ hm, are.keep kt0, same_upd hRW _ _ hd, same_upd hRW _ _ hr2, objs_tup objs kt0, kit.keep isv kt0, upd_same, rfl, h400, oks, rfl⟩
        · rintro i x σ H3 H4 hi ⟨vs, x9, x10, s3, hm3, are3, hd3, hr3, objs3, isv3, hw3, hw3l, h4, oks3, rfl⟩ ⟨rfl, c, hx, rfl⟩
          have hx' : L[i]? = some c := by
            rw [← Array.getElem?_toList, tx_list] at hx
            exact hx
          have hcL : c ∈ L := List.mem_of_getElem? hx'
          have hiL : i < L.length := (List.getElem?_eq_some_iff.mp hx').1
          have e1 : (L.take (i + 1)).foldl (exSign fn key) (ks, []) = exSign fn key ((L.take i).foldl (exSign fn key) (ks, [])) c := by
            rw [List.take_add_one, hx', List.foldl_append] <;> rfl
          rw [e1]
          generalize (L.take i).foldl (exSign fn key) (ks, []) = fo at are3 hd3 hw3 hw3l h4 oks3 ⊢
          have gH := gk H H4 (Same.ext' s3) g0
          refine ⟨fa, G, sp, rfl, cv, gH, _, rfl, _, rfl, gH, hstep H4 v key c _ gH isv3 okk hcL fun v' H5 s5 is5 => ?_⟩
          have oka : ok (fn key c) := okc _ _ okk hcL
          replace hm3 := s5 _ _ hm3
          replace are3 := are3.keep (Same.tup' s5)
          replace hd3 := s5 _ _ hd3
          replace hr3 := s5 _ _ hr3
          replace objs3 := objs_tup objs3 (Same.tup' s5)
          replace isv3 := kit.keep isv3 (Same.tup' s5)
          replace hw3 := s5 _ _ hw3
          replace s3 := s3.trans s5
          have vl3 := are3.len
          refine ⟨_, rfl, _, rfl, D, _, rfl, kit.get hd3 is5, _, rfl, ?_⟩
          unfold exSign
          by_cases hin : fn key c ∈ fo.1
          · rw [if_pos hin]
            rw [if_pos hin]
            refine iteF ?_
            refine ⟨_, rfl, .inl ⟨rfl, _, SqL.of hw3⟩, _, rfl, _, rfl, D, _, rfl, (if_pos hin) ▸ kit.get hd3 is5, RW, _, _, rfl, rfl, hw3, by rw [List.length_map, hw3l, sizeLine_eq]; omega, ?_⟩
            have kt := tup_upd (o := .lst (fo.2.map V.int ++ [.int ((fo.1.idxOf (fn key c) : Nat) : Int)])) hw3 (fun _ z => nomatch z)
            refine ⟨vs, _, _, same_at s3 nRW, ?_, are3.keep kt, ?_, ?_, objs_tup objs3 kt, kit.keep isv3 kt, ?_, ?_, h4, oks3, rfl⟩
            · rw [upd_ne nMW]
              exact hm3
            · rw [upd_ne nDW]
              exact hd3
            · rw [upd_ne nRR]
              exact hr3
            · rw [upd_same]
              show _ = some (HO.lst ((fo.2 ++ [_]).map V.int))
              rw [List.map_append] <;> rfl
            · show (fo.2 ++ [_]).length = _
              rw [List.length_append, hw3l] <;> rfl
          · rw [if_neg hin]
            rw [if_neg hin]
            refine iteT ?_
            refine ⟨_, rfl, M, _, rfl, .inl (SqL.of hm3), _, rfl, rfl, _, rfl, ?_⟩
            rw [vl3]
            refine ite2 (fun full => ?_) (fun full => ?_)
            · refine ⟨_, rfl, .int 400, rfl, fun d H6 nd6 k6 e6 => ?_⟩
              exact q d H6 (s3.free nd6) (fun b o z => k6 b o (s3 _ _ z)) e6
            have hlen1 : fo.1.length + 1 ≤ 400 := by
              have : ¬ fo.1.length = 400 := fun z => full (decide_eq_true (by rw [z] <;> rfl))
              omega
            refine ⟨_, rfl, M, _, rfl, .inl (SqL.of hm3), _, rfl, _, rfl, D, _, rfl, by rw [vl3]; exact kit.put hd3 is5 hin (by rw [sizeLine_eq]; omega), ?_⟩
            have k1 := tup_upd (o := kit.ho (fo.1 ++ [fn key c])) hd3 (kit.not_tup _)
            have m1 : upd H5 D (kit.ho (fo.1 ++ [fn key c])) M = some (.lst vs) := by rw [upd_ne nMD]; exact hm3
            have d1 : upd H5 D (kit.ho (fo.1 ++ [fn key c])) D = some (kit.ho (fo.1 ++ [fn key c])) := upd_same
            have r1 : upd H5 D (kit.ho (fo.1 ++ [fn key c])) R = some (.lst (ts.map V.ref)) := by rw [upd_ne (Ne.symm nDR)]; exact hr3
            have w1 : upd H5 D (kit.ho (fo.1 ++ [fn key c])) RW = some (.lst (fo.2.map V.int)) := by rw [upd_ne (Ne.symm nDW)]; exact hw3
            have s1 : Same H (upd H5 D (kit.ho (fo.1 ++ [fn key c]))) := same_at s3 nD
            have a1 := are3.keep k1
            have o1 := objs_tup objs3 k1
            have v1 := kit.keep isv3 k1
            have is1 := kit.keep is5 k1
            generalize upd H5 D (kit.ho (fo.1 ++ [fn key c])) = H6 at m1 d1 r1 w1 s1 a1 o1 v1 is1 ⊢
            refine ⟨_, rfl, .inl ⟨rfl, _, SqL.of m1⟩, _, rfl, M, _, _, rfl, rfl, m1, by rw [vl3, sizeLine_eq]; omega, ?_⟩
            have k2 := tup_upd (o := .lst (vs ++ [v'])) m1 (fun _ z => nomatch z)
            have m2 : upd H6 M (.lst (vs ++ [v'])) M = some (.lst (vs ++ [v'])) := upd_same
            have d2 : upd H6 M (.lst (vs ++ [v'])) D = some (kit.ho (fo.1 ++ [fn key c])) := by rw [upd_ne (Ne.symm nMD)]; exact d1
            have r2 : upd H6 M (.lst (vs ++ [v'])) R = some (.lst (ts.map V.ref)) := by rw [upd_ne (Ne.symm nMR)]; exact r1
            have w2 : upd H6 M (.lst (vs ++ [v'])) RW = some (.lst (fo.2.map V.int)) := by rw [upd_ne (Ne.symm nMW)]; exact w1
            have s2' : Same H (upd H6 M (.lst (vs ++ [v']))) := same_at s1 hM
            have a2 := (a1.snoc is1).keep k2
            have o2 := objs_tup o1 k2
            have v2 := kit.keep v1 k2
            have is2 := kit.keep is1 k2
            generalize upd H6 M (.lst (vs ++ [v'])) = H7 at m2 d2 r2 w2 s2' a2 o2 v2 is2 ⊢
            have gg := kit.get d2 is2
            rw [if_pos (List.mem_append_right _ (List.mem_singleton.mpr rfl)), idx_end hin] at gg
            refine ⟨_, rfl, .inl ⟨rfl, _, SqL.of w2⟩, _, rfl, _, rfl, D, _, rfl, gg, RW, _, _, rfl, rfl, w2, by rw [List.length_map, hw3l, sizeLine_eq]; omega, ?_⟩
            have k3 := tup_upd (o := .lst (fo.2.map V.int ++ [.int ((fo.1.length : Nat) : Int)])) w2 (fun _ z => nomatch z)
            refine ⟨vs ++ [v'], _, _, same_at s2' nRW, ?_, a2.keep k3, ?_, ?_, objs_tup o2 k3, kit.keep v2 k3, ?_, ?_, by rw [List.length_append]; exact hlen1, ?_, rfl⟩
            · rw [upd_ne nMW]
              exact m2
            · rw [upd_ne nDW]
              exact d2
            · rw [upd_ne nRR]
              exact r2
            · rw [upd_same]
              show _ = some (HO.lst ((fo.2 ++ [_]).map V.int))
              rw [List.map_append] <;> rfl
            · show (fo.2 ++ [_]).length = _
              rw [List.length_append, hw3l] <;> rfl
            · intro a ha
              rcases List.mem_append.mp ha with h | h
              · exact oks3 a h
              · rw [List.mem_singleton.mp h]
                exact oka
        · rintro σ H3 ⟨vs, x9, x10, s3, hm3, are3, hd3, hr3, objs3, isv3, hw3, hw3l, fB, oks3, rfl⟩
          rw [size_tx, List.take_length] at are3 hd3 hw3 hw3l fB oks3
          generalize hfo : L.foldl (exSign fn key) (ks, []) = fo at are3 hd3 hw3 hw3l oks3 fB hstep1
          have grows : ks.length ≤ fo.1.length := by rw [← hfo]; exact (exFold_grows fn key L (ks, [])).length_le
          refine ⟨_, rfl, .inl ⟨rfl, _, SqL.of hr3⟩, _, rfl, RW, _, rfl, .inl ⟨SqL.of hw3, fun t ht => ?_⟩⟩
          have s4 := same_upd (o := .tup (fo.2.map V.int)) ht
          have nt : R ≠ t := fun z => by rw [← z, hr3] at ht; cases ht
          refine ⟨R, _, _, rfl, rfl, s4 _ _ hr3, by rw [List.length_map, hts, sizeLine_eq]; omega, ?_⟩
          have hr4 := s4 _ _ hr3
          have hm4 := s4 _ _ hm3
          have hd4 := s4 _ _ hd3
          have ho4 := objs_tup objs3 (Same.tup' s4)
          have ha4 := are3.keep (Same.tup' s4)
          have ht4 : upd H3 t (.tup (fo.2.map V.int)) t = some (oTup fo.2) := upd_same
          have s5 := s3.trans s4
          generalize upd H3 t (.tup (fo.2.map V.int)) = H4 at hr4 hm4 hd4 ho4 ha4 ht4 s5 ⊢
          have k3 := tup_upd (o := .lst (ts.map V.ref ++ [.ref t])) hr4 (fun _ z => nomatch z)
          refine ⟨⟨j + 1, vs, ts ++ [t], _, _, _, _, same_at s5 nR, ?_, ?_, ?_, ?_, ?_, ?_, ?_, by rw [hstep1]; exact fB, ?_, rfl⟩, ?_⟩
          · rw [upd_ne nMR]
            exact hm4
          · rw [hstep1]
            exact ha4.keep k3
          · rw [upd_ne nDR, hstep1]
            exact hd4
          · rw [upd_same, List.map_append] <;> rfl
          · rw [hstep1]
            exact objs_tup (ho4.snoc ht4) k3
          · rw [List.length_append, hts] <;> rfl
          · rw [hstep1]
            show j + 1 ≤ fo.1.length
            omega
          · rw [hstep1]
            exact oks3
          · show 400 - (match (upd _ R _) R with | some (.lst xs) => xs.length | _ => 0) < 400 - (match H2 R with | some (.lst xs) => xs.length | _ => 0)
            rw [upd_same, hr2]
            show _ - (ts.map V.ref ++ [_]).length < _ - (ts.map V.ref).length
            rw [List.length_append, List.length_map, hts]
            show _ - (j + 1) < _
            omega
      · have hge : ¬ (((j : Nat) : Int) < (((st j).1.length : Nat) : Int)) := fun z => hge (decide_eq_true z)
        have e1 : (st j).1.length ≤ j := by omega
        rcases Nat.le_total J j with z | z
        · have := hmo (j - J)
          rw [show J + (j - J) = j by omega] at this
          omega
        · have := hsp j (J - j) e1
          rw [show j + (J - j) = J by omega] at this
          rw [this] at hJ
          omega
    · exact fun σ H Q Q' hm ⟨v, hv, M', ys, e, hs, w', hw, M2, ys2, e2, hs2, i, j, a, b, k, hk, q⟩ => ⟨v, hv, M', ys, e, hs, w', hw, M2, ys2, e2, hs2, i, j, a, b, k, hk, hm _ _ q⟩
end
end WK
set_option Elab.async false
set_option linter.all false
set_option maxRecDepth 100000
set_option maxHeartbeats 8000000
namespace WK
open PySem L2 PyProof.Rows LCX K1 FV DP LamX NdefX NCX
open TX (sg sigs)
open PySem.W (Frag kitOne)
abbrev sClerk : Stmt := inClass (top 63) 6
def spClerk (T : List (Addr × Str)) (C : Addr) : Sp := fun vs H Q _ => ∃ (L : W) (n m : Int), vs = [.ref C, .str (tx L), .int n, .int m] ∧ 0 ≤ n ∧ n ≤ 9 ∧ 1 ≤ m ∧ m ≤ 12 ∧ CntBox T C L n m H Q
def StepsR {α : Type} [DecidableEq α] (P : Program) (w : World) (K : Frag) (mg : Str → Option Value) (base : Heap) (kit : Kit α) (kf : Nat) (H : Hp) (L : W) (v0 : V) (fa : Addr) (start : α) (f : α → Nat → α) (J : Nat) : Prop :=
  ∃ (G : Hp → Prop) (sp : Sp) (ok : α → Prop), kit.is H v0 start ∧ CallV P w K mg base CX0 kf fa G sp ∧ G H ∧
    (∀ H H', KeepsExt H H' → G H → G H') ∧ ok start ∧ (∀ a c, ok a → c ∈ L → ok (f a c)) ∧
    (∀ (H : Hp) (v : V) (a : α) (c : Nat) (Q : VK), G H → kit.is H v a → ok a → c ∈ L → (∀ v' H', Same H H' → kit.is H' v' (f a c) → Q v' H') → sp [v, .str (sg c)] H Q E0) ∧ 400 < (exAll f L start J).1.length
def spGrownR (P : Program) (w : World) (K : Frag) (mg : Str → Option Value) (base : Heap) {α : Type} [DecidableEq α] (kit : Kit α) (kf : Nat) (cT : Addr) : Sp := fun vs H _ E =>
  ∃ (L : W) (v0 : V) (start : α) (fa : Addr) (f : α → Nat → α) (J : Nat), vs = [.str (tx L), v0, .ref fa] ∧ L.length ≤ 3 ∧ StepsR P w K mg base kit kf H L v0 fa start f J ∧ ManyE cT H E
/-- the same, where tables of code objects may have grown -/
def ManyG (T : List (Addr × Str)) (cT : Addr) (H : Hp) (E : XK) : Prop := ∀ d H', H d = none → Grows T H H' → H' d = some (.xd [("limit", .int 400)]) → E (.ref cT) (some d) H'
def spCountR (T : List (Addr × Str)) (cT : Addr) : Sp := fun vs H _ E => ∃ (L : W) (cap md : Int) (J : Nat), vs = [.str (tx L), .int cap, .int md] ∧ L.length ≤ 3 ∧ Tabs T H ∧ 400 < (exAll (cntF L cap md) L (zeros L) J).1.length ∧ ManyG T cT H E
def spClerkR (T : List (Addr × Str)) (C cT : Addr) : Sp := fun vs H _ E => ∃ (L : W) (n m : Int) (J : Nat), vs = [.ref C, .str (tx L), .int n, .int m] ∧ 0 ≤ n ∧ n ≤ 9 ∧ 1 ≤ m ∧ m ≤ 12 ∧ Let L ∧ Tabs T H ∧ 400 < (exAll (cntF L n m) L (zeros L) J).1.length ∧ ManyG T cT H E
section
variable {P : Program} {w : World} {K : Frag} {mg : Str → Option Value} {base : Heap} {C cD cT fL fI fE : Addr} {dL dI dE : FuncData} {T : List (Addr × Str)}
theorem ok_grownR {α : Type} [DecidableEq α] {kit : Kit α} {kf : Nat} {f : Addr} {fd : FuncData} (F : Fun K "_grown" "_grown" sGrown f fd) (M : TBx K mg C cD) (gE : mg "explored" = some (.ref fE)) (kE : PySem.W.keepIn K (.ref fE) = true) (GE : FnOk P w K mg base (L2.CX P w) (kf + 3) fE dE ["signs", "start", "step", "most"] (spExplR P w K mg base kit kf cT))
    (MI : Mk K cD fI) (GI : FnOk P w K mg base CX0 1 fI dI ["self", "rows"] (spMadeI cD)) (bI : Binds K dI ["self", "rows"] []) (bE : Binds K dE ["signs", "start", "step", "most"] []) :
    FnOk P w K mg base (L2.CX P w) (kf + 4) f fd ["letters", "start", "step"] (spGrownR P w K mg base kit kf cT) := by
  obtain ⟨tm, most⟩ := M.most
  refine F.okX scGr (fun vs H Q E h => ?_) (fun cdv A outer s H vs Q E hr h => ?_)
  · obtain ⟨L, v0, start, fa, fn, J, rfl, _⟩ := h
    rfl
  · obtain ⟨L, v0, start, fa, fn, J, rfl, hL, ⟨G, sp, ok, is0, cv, g0, gk, ok0, okc, hstep, hJ⟩, q⟩ := h
    have hr2 : Room 2 _ := hr.mono (by omega)
    refine ⟨_, pss_one (ps_ret (pe_make (E := E0) MI GI hr2 rfl M.gD bI .nil pass0 (pa_cons (pe_ix ix_tup (pe_call (E := E) GE hr rfl gE kE bE .nil (passes_call (takes_of rfl rfl rfl rfl) (fun _ _ _ _ h => h)) (pa_cons (pv 0) (pa_cons (pv 1) (pa_cons (pv 2) (pa_cons (pe_glob rfl most (show RelV (.int 400) (.int 400 tm) from ⟨tm, rfl⟩)) pa_nil))))) pe_int (fun _ _ => rfl)) pa_nil))), ?_⟩
    exact ⟨_, rfl, _, rfl, _, rfl, L, v0, start, fa, G, sp, fn, ok, J, rfl, hL, is0, cv, g0, gk, ok0, okc, hstep, hJ, q⟩
theorem steps_cntR {f : Addr} {F : NF} {cs : Cs} {J : Nat} {L : W} {cap md : Int} {H : Hp} {b0 : Addr} (o : NOk P w K mg base CX0 2 f F ["held", "letter"] ["letters", "cap", "modulus"] spStep) (ft : Fits F.cl ["letters", "cap", "modulus"] cs [.str (tx L), .int cap, .int md])
    (h1 : H f = some (FnO f F)) (h2 : H F.c = some (CodeO F.c F.qual)) (l : Lay cs H) (h0 : H b0 = some (.tup ((zeros L).map V.int))) (hL : L.length ≤ 3) (hJ : 400 < (exAll (cntF L cap md) L (zeros L) J).1.length) :
    StepsR P w K mg base kitI 2 H L (.ref b0) f (zeros L) (cntF L cap md) J := by
  refine ⟨_, _, fun a => a.length = L.length, kitI_is.mpr h0, callV_nok o cxon_0 ft, ⟨h1, h2, l⟩, fun H H' k ⟨a, b, c⟩ => ⟨k _ _ a, k _ _ b, fun p hp => k _ _ (c p hp)⟩, List.length_map _, fun a c h _ => cnt_len L cap md a c h, fun H v a c Q ⟨_, _, l⟩ hv ha hc q => ?_, hJ⟩
  obtain ⟨b1, e1, hb0⟩ := hv
  subst e1
  have hb1 := kitI_is.mp ⟨b1, rfl, hb0⟩
  refine ⟨b1, L, a, c, cap, md, rfl, rfl, off_keep l hb1 (fun _ z => nomatch z), ha, hL, fun t H' _ s ht n => ?_⟩
  exact q _ _ (same_on l ft.nd s n) (kitI_is.mpr (on_keep n ht))
theorem ok_countR {f cN PN fG fO : Addr} {dG dO : FuncData} {oc kV dc pm ct dV : Value} {an od : Option Addr} {sl : Array (Option Value)} (lk : K.lookup f = some ⟨oc, od, .func (PySem.W.fnOf "_counting" "_counting" (defArgs sCount) (defBody sCount) (defScope sCount) dV kV dc pm an (.ref cN) ct), sl⟩) (hcd : PySem.W.codeIn K (.ref cN) "_counting" = true)
    (TB : TabB base mg cN PN) (mem : (PN, qStep) ∈ T) (uniq : ∀ p ∈ T, p.1 = PN → p.2 = qStep) (TT : TN mg) (AO : Fn K mg "_one_more" sOneM ["number", "cap", "modulus"] fO dO) (GO : FnOk P w K mg base CX0 1 fO dO ["number", "cap", "modulus"] spOneM)
    (AG : Fn K mg "_grown" sGrown ["letters", "start", "step"] fG dG) (GG : FnOk P w K mg base (L2.CX P w) 6 fG dG ["letters", "start", "step"] (spGrownR P w K mg base kitI 2 cT)) :
    FnOk P w K mg base (L2.CX P w) 7 f (PySem.W.fnOf "_counting" "_counting" (defArgs sCount) (defBody sCount) (defScope sCount) dV kV dc pm an (.ref cN) ct) ["letters", "cap", "modulus"] (spCountR T cT) := by
  refine fn_of (CX := L2.CX P w) lk hcd scCn (fun vs H Q E h => ?_) (fun A outer s H vs Q E hr h => ?_)
  · obtain ⟨L, cap, md, J, rfl, _⟩ := h
    rfl
  · obtain ⟨L, cap, md, J, rfl, hL, tabs, hJ, q⟩ := h
    refine ⟨_, pss_cons (ps_ndefMS (T := nTabs T) (nm := fun _ _ => qStep) (i := 3) rfl TB rfl (List.mem_map.mpr ⟨_, mem, rfl⟩) rfl (fun p hp e => by
          obtain ⟨q, hq, rfl⟩ := List.mem_map.mp hp
          show (fun _ _ => q.2) = _
          rw [uniq q hq e]) capS rfl rfl rfl scCn.nd rfl (Or.inl rfl) (Or.inl rfl))
      (pss_one (ps_ret (pe_callCX (E := E) (fr := ["letters", "cap", "modulus"]) (js := [0, 1, 2]) GG hr (passes_call (takes_of rfl rfl rfl rfl) (fun _ _ _ _ h => h)) rfl AG.g AG.F.kp AG.b (fun ok => Caps.made (scope := C8.fnScope sStep) ok capS (by decide +kernel) rfl)
          (fun y c h => by
            rcases clo_only h with z | z
            · have : ∀ p ∈ (C8.fnScope sStep).names, p.2 = .free → p.1 ∈ (["letters", "cap", "modulus"] : List Str) := by decide +kernel
              exact this _ z rfl
            · cases z) (by decide +kernel) (fun _ _ => rfl)
          (pa_cons (pv 0) (pa_cons (pe_callTy call_tuple_of (by rfl) TT.tuple (by decide +kernel) (pa_cons (pe_lc (own := [("_", 4)]) (g := gName 4) (tt := tYes) (te := tC (.int 0)) rfl scCn.nd (pi_str (pv 0))
            (blkOk_by (own := [("_", 4)]) (N := NCo) (sc := defScope sCount) (by decide +kernel)) (fun _ _ _ _ _ => pg_name (i := 4) scCn.nd rfl (Or.inl rfl)) (fun _ _ _ _ _ => pts_nil) (fun _ _ _ _ _ => pe_int)) pa_nil)) (pa_cons (pv 3) pa_nil)))))), ?_⟩
    refine ⟨tabsN_of tabs, fun f c' H1 e1 back t1 nf hf hc => ?_⟩
    have g1 : Grows T H H1 := ⟨e1, tabs_ofN t1, back⟩
    refine ⟨_, rfl, _, rfl, tx L, rfl, fun D hD => ?_⟩
    refine lc_it walk_str (fun i H3 => Same H1 H3 ∧ H3 D = some (.lst ((zeros (L.take i)).map V.int))) ⟨same_upd hD, upd_same⟩ (fun _ _ _ _ => trivial) ?_ ?_
    · rintro i x H3 H4 hi ⟨s3, hd⟩ ⟨rfl, y, hy, rfl⟩
      have hy' : L[i]? = some y := by
        rw [← Array.getElem?_toList, tx_list] at hy
        exact hy
      refine ⟨rfl, _, hd, ?_, same_at s3 hD, ?_⟩
      · rw [List.length_map, List.length_map, List.length_take, sizeLine_eq]
        omega
      · rw [upd_same, List.take_add_one, hy']
        show _ = some (HO.lst (((L.take i ++ [y]).map fun _ => (0 : Int)).map V.int))
        rw [List.map_append, List.map_append] <;> rfl
    · rintro H3 ⟨s3, hd⟩
      rw [size_tx, List.take_length] at hd
      refine ⟨D, _, rfl, .inl ⟨SqL.of hd, fun t ht => ?_⟩⟩
      have s4 := same_upd (o := .tup ((zeros L).map V.int)) ht
      have g4 : Grows T H (upd H3 t (.tup ((zeros L).map V.int))) := grows_same (grows_same g1 s3) s4
      have a4 : (upd H3 t (.tup ((zeros L).map V.int))) t = some (.tup ((zeros L).map V.int)) := upd_same
      have hf4 := s4 _ _ (s3 _ _ hf)
      have hc4 := s4 _ _ (s3 _ _ hc)
      generalize upd H3 t (.tup ((zeros L).map V.int)) = H4 at g4 a4 hf4 hc4 ⊢
      refine ⟨_, rfl, [.str (tx L), .int cap, .int md], rfl, fun cs ft none_ => ?_⟩
      refine ⟨L, .ref t, zeros L, f, cntF L cap md, J, rfl, hL, steps_cntR (nok_step rfl rfl rfl TT AO GO) ft (on_keep none_ hf4) (on_keep none_ hc4) (onn_lay ft.nd) (on_keep none_ a4) hL hJ, fun g H5 ng s5 mk => ⟨lay_same ft.nd s5, ?_⟩⟩
      have l5 := lay_same ft.nd s5
      have s6 := same_off none_ s5
      have mk6 : off cs H5 g = some (.xd [("limit", .int 400)]) := by
        rw [off_out (lay_not l5 mk fun _ z => nomatch z)]
        exact mk
      have ng4 : H4 g = none := by
        by_cases z : g ∈ cs.map (·.1)
        · obtain ⟨p, hp, rfl⟩ := List.mem_map.mp z
          exact none_ p hp
        · rw [onn_out z] at ng
          exact ng
      exact q g _ (g4.2.2 g ng4) (grows_same g4 s6) mk6
section
variable {fNL fNN fG fB : Addr} {dNL dNN dG dB : FuncData}
theorem scCl : FnScope ["cls", "letters", "cap", "modulus"] ["cls", "letters", "cap", "modulus"] (defScope sClerk) := ⟨rfl, rfl, rfl, by decide +kernel, rfl, by decide +kernel, by decide +kernel⟩
theorem ok_clerk {f : Addr} {oc kV dc pm ct cd dV : Value} {an od : Option Addr} {sl : Array (Option Value)} (lk : K.lookup f = some ⟨oc, od, .func (PySem.W.fnOf "clerk" "Box.clerk" (defArgs sClerk) (defBody sClerk) (defScope sClerk) dV kV dc pm an cd ct), sl⟩) (hcd : PySem.W.codeIn K cd "Box.clerk" = true)
    (m9 : ∃ t, mg "_MAX_CAP" = some (.int 9 t)) (m12 : ∃ t, mg "_MAX_MODULUS" = some (.int 12 t)) (AL : Fn K mg "need_letters" sNeedLet ["letters"] fNL dNL) (GL : FnOk P w K mg base CX0 3 fNL dNL ["letters"] spNeedLet) (AN : Fn K mg "need_number" sNeedNum ["value", "least", "most"] fNN dNN) (GN : FnOk P w K mg base CX0 3 fNN dNN ["value", "least", "most"] spNeedNum)
    (AG : Fn K mg "_counting" sCount ["letters", "cap", "modulus"] fG dG) (GG : FnOk P w K mg base CX0 6 fG dG ["letters", "cap", "modulus"] (spCounting T cD)) (MI : Mk K C fB) (GI : FnOk P w K mg base CX0 3 fB dB ["self", "letters", "table"] (spBoxI C cD)) (bI : Binds K dB ["self", "letters", "table"] []) :
    FnOk P w K mg base CX0 7 f (PySem.W.fnOf "clerk" "Box.clerk" (defArgs sClerk) (defBody sClerk) (defScope sClerk) dV kV dc pm an cd ct) ["cls", "letters", "cap", "modulus"] (spClerk T C) := by
  obtain ⟨tm, most⟩ := m9
  obtain ⟨tm2, most2⟩ := m12
  refine fn_of lk hcd scCl (fun vs H Q E h => ?_) (fun A outer s H vs Q E hr h => ?_)
  · obtain ⟨L, n, m, rfl, _⟩ := h
    rfl
  · obtain ⟨L, n, m, rfl, n0, n9, m1, m12, hL, tabs, B, hB, hB4, q⟩ := h
    have hr3 : Room 3 _ := hr.mono (by decide)
    have hr4 : Room 4 _ := hr.mono (by decide)
    refine ⟨_, pss_cons (ps_expr (pe_call GL hr3 rfl AL.g AL.F.kp AL.b .nil pass0 (pa_cons (pv 1) pa_nil)))
      (pss_cons (ps_expr (pe_call GN hr3 rfl AN.g AN.F.kp AN.b .nil pass0 (pa_cons (pv 2) (pa_cons pe_int (pa_cons (pe_glob rfl most (show RelV (.int 9) (.int 9 tm) from ⟨tm, rfl⟩)) pa_nil)))))
      (pss_cons (ps_expr (pe_call GN hr3 rfl AN.g AN.F.kp AN.b .nil pass0 (pa_cons (pv 3) (pa_cons pe_int (pa_cons (pe_glob rfl most2 (show RelV (.int 12) (.int 12 tm2) from ⟨tm2, rfl⟩)) pa_nil)))))
      (pss_one (ps_ret (pe_makeV (i := 0) (E := E0) MI GI hr4 rfl (.inl rfl) bI .nil pass0 (pa_cons (pv 1) (pa_cons
        (pe_call GG hr rfl AG.g AG.F.kp AG.b .nil pass0 (pa_cons (pv 1) (pa_cons (pv 2) (pa_cons (pv 3) pa_nil)))) pa_nil))))))), ?_⟩
    refine ⟨_, rfl, L, rfl, hL, fun H1 s1 => ⟨_, rfl, n, 0, 9, rfl, n0, n9, _, rfl, m, 1, 12, rfl, m1, m12, ?_⟩⟩
    refine ⟨rfl, _, rfl, _, rfl, _, rfl, _, rfl, L, n, m, B, rfl, hL.few, tabs.ext s1, hB, hB4, fun g H2 ng gr mk => ?_⟩
    have gr2 : Grows T H H2 := by
      have := grows_same (Grows.refl tabs) s1
      exact ⟨fun b o e n => gr.1 b o (this.1 b o e n) n, gr.2.1, fun d z => this.2.2 d (gr.2.2 d z)⟩
    exact box_made hL gr2 mk q
theorem ok_clerkR {f : Addr} {oc kV dc pm ct cd dV : Value} {an od : Option Addr} {sl : Array (Option Value)} (lk : K.lookup f = some ⟨oc, od, .func (PySem.W.fnOf "clerk" "Box.clerk" (defArgs sClerk) (defBody sClerk) (defScope sClerk) dV kV dc pm an cd ct), sl⟩) (hcd : PySem.W.codeIn K cd "Box.clerk" = true)
    (m9 : ∃ t, mg "_MAX_CAP" = some (.int 9 t)) (m12 : ∃ t, mg "_MAX_MODULUS" = some (.int 12 t)) (AL : Fn K mg "need_letters" sNeedLet ["letters"] fNL dNL) (GL : FnOk P w K mg base CX0 3 fNL dNL ["letters"] spNeedLet) (AN : Fn K mg "need_number" sNeedNum ["value", "least", "most"] fNN dNN) (GN : FnOk P w K mg base CX0 3 fNN dNN ["value", "least", "most"] spNeedNum)
    (AG : Fn K mg "_counting" sCount ["letters", "cap", "modulus"] fG dG) (GG : FnOk P w K mg base (L2.CX P w) 7 fG dG ["letters", "cap", "modulus"] (spCountR T cT)) (MI : Mk K C fB) (GI : FnOk P w K mg base CX0 3 fB dB ["self", "letters", "table"] (spBoxI C cD)) (bI : Binds K dB ["self", "letters", "table"] []) :
    FnOk P w K mg base (L2.CX P w) 8 f (PySem.W.fnOf "clerk" "Box.clerk" (defArgs sClerk) (defBody sClerk) (defScope sClerk) dV kV dc pm an cd ct) ["cls", "letters", "cap", "modulus"] (spClerkR T C cT) := by
  obtain ⟨tm, most⟩ := m9
  obtain ⟨tm2, most2⟩ := m12
  refine fn_of (CX := L2.CX P w) lk hcd scCl (fun vs H Q E h => ?_) (fun A outer s H vs Q E hr h => ?_)
  · obtain ⟨L, n, m, J, rfl, _⟩ := h
    rfl
  · obtain ⟨L, n, m, J, rfl, n0, n9, m1, m12, hL, tabs, hJ, q⟩ := h
    have hr3 : Room 3 _ := hr.mono (by decide)
    have hr4 : Room 4 _ := hr.mono (by decide)
    refine ⟨_, pss_cons (ps_expr (pe_call GL hr3 rfl AL.g AL.F.kp AL.b .nil pass0 (pa_cons (pv 1) pa_nil)))
      (pss_cons (ps_expr (pe_call GN hr3 rfl AN.g AN.F.kp AN.b .nil pass0 (pa_cons (pv 2) (pa_cons pe_int (pa_cons (pe_glob rfl most (show RelV (.int 9) (.int 9 tm) from ⟨tm, rfl⟩)) pa_nil)))))
      (pss_cons (ps_expr (pe_call GN hr3 rfl AN.g AN.F.kp AN.b .nil pass0 (pa_cons (pv 3) (pa_cons pe_int (pa_cons (pe_glob rfl most2 (show RelV (.int 12) (.int 12 tm2) from ⟨tm2, rfl⟩)) pa_nil)))))
      (pss_one (ps_ret (pe_makeV (i := 0) (E := E0) MI GI hr4 rfl (.inl rfl) bI .nil pass0 (pa_cons (pv 1) (pa_cons
        (pe_call (E := E) GG hr rfl AG.g AG.F.kp AG.b .nil (passes_call (takes_of rfl rfl rfl rfl) (fun _ _ _ _ h => h)) (pa_cons (pv 1) (pa_cons (pv 2) (pa_cons (pv 3) pa_nil)))) pa_nil))))))), ?_⟩
    refine ⟨_, rfl, L, rfl, hL, fun H1 s1 => ⟨_, rfl, n, 0, 9, rfl, n0, n9, _, rfl, m, 1, 12, rfl, m1, m12, ?_⟩⟩
    refine ⟨rfl, _, rfl, _, rfl, _, rfl, _, rfl, L, n, m, J, rfl, hL.few, tabs.ext s1, hJ, fun d H2 nd gr e => ?_⟩
    have gr2 : Grows T H H2 := by
      have := grows_same (Grows.refl tabs) s1
      exact ⟨fun b o e n => gr.1 b o (this.1 b o e n) n, gr.2.1, fun d z => this.2.2 d (gr.2.2 d z)⟩
    exact q d H2 (s1.free nd) gr2 e
end
end
end WK
set_option Elab.async false
set_option linter.all false
set_option maxRecDepth 100000
set_option maxHeartbeats 8000000
namespace WK
open PySem L2 PyProof.Rows LCX K1 FV DP
open TX (sg sigs)
/-- two numbers below n -/
def twoTo (n : Nat) : List (List Int) := (List.range (n * n)).map fun i => [((i / n : Nat) : Int), ((i % n : Nat) : Int)]
theorem two_len (n : Nat) : (twoTo n).length = n * n := by
  unfold twoTo
  rw [List.length_map, List.length_range]
theorem two_at {n a b : Nat} (ha : a < n) (hb : b < n) : [(a : Int), (b : Int)] ∈ twoTo n := by
  refine List.mem_map.mpr ⟨n * a + b, List.mem_range.mpr ?_, ?_⟩
  · have h1 : n * (a + 1) ≤ n * n := Nat.mul_le_mul_left n ha
    rw [Nat.mul_add, Nat.mul_one] at h1
    omega
  · have n0 : 0 < n := by omega
    rw [Nat.mul_add_div n0, Nat.div_eq_of_lt hb, Nat.add_zero, Nat.mul_add_mod, Nat.mod_eq_of_lt hb]
theorem of_two {n : Nat} {k : List Int} (h : k ∈ twoTo n) : ∃ a b : Nat, a < n ∧ b < n ∧ k = [(a : Int), (b : Int)] := by
  obtain ⟨i, hi, rfl⟩ := List.mem_map.mp h
  have hi := List.mem_range.mp hi
  have n0 : 0 < n := by
    rcases Nat.eq_zero_or_pos n with z | z
    · rw [z] at hi
      omega
    · exact z
  exact ⟨i / n, i % n, Nat.div_lt_of_lt_mul hi, Nat.mod_lt _ n0, rfl⟩
theorem two_nd (n : Nat) : (twoTo n).Nodup := by
  unfold twoTo
  refine List.pairwise_map.mpr ((List.nodup_range (n := n * n)).imp fun {i j} ne e => ne ?_)
  have e1 := Int.ofNat.inj (List.cons.inj e).1
  have e2 := Int.ofNat.inj (List.cons.inj (List.cons.inj e).2).1
  rw [← Nat.div_add_mod i n, ← Nat.div_add_mod j n, e1, e2]
theorem cnt_a (cap md a b : Int) : cntF [97, 98] cap md [a, b] 97 = [oneM cap md a, b] := rfl
theorem cnt_b (cap md a b : Int) : cntF [97, 98] cap md [a, b] 98 = [a, oneM cap md b] := rfl
theorem one_lt {cap md a : Nat} (m1 : 1 ≤ md) (ha : a < cap + md) : ∃ b : Nat, b < cap + md ∧ oneM cap md a = (b : Int) := by
  unfold oneM
  by_cases h : (a : Int) + 1 < (cap : Int) + (md : Int)
  · exact ⟨a + 1, by omega, by rw [if_pos h] <;> rfl⟩
  · exact ⟨cap, by omega, by rw [if_neg h]⟩
theorem one_up {cap md a : Nat} (h : a + 1 < cap + md) : oneM cap md a = ((a + 1 : Nat) : Int) := by
  unfold oneM
  rw [if_pos (by omega)] <;> rfl
theorem cnt_as {cap md : Nat} (b : Int) : ∀ a : Nat, a < cap + md → (List.replicate a 97).foldl (cntF [97, 98] cap md) [0, b] = [(a : Int), b]
  | 0, _ => rfl
  | a + 1, h => by
    rw [List.replicate_succ', List.foldl_append, cnt_as b a (by omega)]
    show cntF [97, 98] cap md [(a : Int), b] 97 = _
    rw [cnt_a, one_up h]
theorem cnt_bs {cap md : Nat} (a : Int) : ∀ b : Nat, b < cap + md → (List.replicate b 98).foldl (cntF [97, 98] cap md) [a, 0] = [a, (b : Int)]
  | 0, _ => rfl
  | b + 1, h => by
    rw [List.replicate_succ', List.foldl_append, cnt_bs a b (by omega)]
    show cntF [97, 98] cap md [a, (b : Int)] 98 = _
    rw [cnt_b, one_up h]
/-- all of them are places -/
theorem cnt_two {cap md : Nat} (m1 : 1 ≤ md) : Done (cntF [97, 98] cap md) [97, 98] (zeros [97, 98]) ((cap + md) * (cap + md)) := by
  have h0 : zeros [97, 98] ∈ twoTo (cap + md) := two_at (a := 0) (b := 0) (by omega) (by omega)
  have hs : ∀ k ∈ twoTo (cap + md), ∀ c ∈ ([97, 98] : W), cntF [97, 98] cap md k c ∈ twoTo (cap + md) := by
    intro k hk c hc
    obtain ⟨a, b, ha, hb, rfl⟩ := of_two hk
    simp only [List.mem_cons, List.not_mem_nil, or_false] at hc
    rcases hc with rfl | rfl
    · obtain ⟨x, hx, e⟩ := one_lt m1 ha
      rw [cnt_a, e]
      exact two_at hx hb
    · obtain ⟨x, hx, e⟩ := one_lt m1 hb
      rw [cnt_b, e]
      exact two_at ha hx
  obtain ⟨N, d, le⟩ := done_in (f := cntF [97, 98] cap md) (L := [97, 98]) h0 hs
  rw [two_len] at le
  have ge := (two_nd (cap + md)).length_le_of_subset (l₂ := (exAll (cntF [97, 98] cap md) [97, 98] (zeros [97, 98]) N).1) fun k hk => by
    obtain ⟨a, b, ha, hb, rfl⟩ := of_two hk
    refine (d.reach _).mpr ⟨List.replicate a 97 ++ List.replicate b 98, fun c hc => ?_, ?_⟩
    · rcases List.mem_append.mp hc with z | z
      · rw [(List.mem_replicate.mp z).2]
        exact .head _
      · rw [(List.mem_replicate.mp z).2]
        exact .tail _ (.head _)
    · rw [List.foldl_append]
      show (List.replicate b 98).foldl _ ((List.replicate a 97).foldl _ [0, ((0 : Nat) : Int)]) = _
      rw [cnt_as _ a ha]
      exact cnt_bs (a : Int) b hb
  rw [two_len, d.len] at ge
  have e : N = (cap + md) * (cap + md) := by omega
  exact e ▸ d
/-- up to 8, by rests of 12: 400 places -/
theorem cnt_400 : (∀ j, (exAll (cntF [97, 98] 8 12) [97, 98] (zeros [97, 98]) j).1.length ≤ 400) ∧ (exAll (cntF [97, 98] 8 12) [97, 98] (zeros [97, 98]) 400).2.length = 400 := by
  have d : Done (cntF [97, 98] 8 12) [97, 98] (zeros [97, 98]) 400 := cnt_two (cap := 8) (md := 12) (by decide)
  have r := exAll_rows (f := cntF [97, 98] 8 12) (L := [97, 98]) (start := zeros [97, 98]) 400
  rw [d.len, Nat.min_self] at r
  exact ⟨(d.most (Nat.le_refl _)).1, r⟩
/-- up to 9: more -/
theorem cnt_441 : 400 < (exAll (cntF [97, 98] 9 12) [97, 98] (zeros [97, 98]) 441).1.length := by
  have d : Done (cntF [97, 98] 9 12) [97, 98] (zeros [97, 98]) 441 := cnt_two (cap := 9) (md := 12) (by decide)
  rw [d.len]
  decide
theorem let_ab : Let [97, 98] := ⟨by intro c hc; simp only [List.mem_cons, List.not_mem_nil, or_false] at hc; rcases hc with rfl | rfl <;> decide, by decide, by decide, by decide⟩
end WK
set_option Elab.async false
set_option linter.all false
set_option maxRecDepth 100000
set_option maxHeartbeats 8000000
namespace WK
open PySem L2 PyProof.Rows LCX K1 FV LamX NdefX
open TX (sg sigs)
open PySem.W (Frag kitOne)
abbrev sNeedSome : Stmt := top 83
theorem fnOk_or {P : Program} {w : World} {K : Frag} {mg : Str → Option Value} {base : Heap} {CX : CXT} {k : Nat} {f : Addr} {fd : FuncData} {ps : List Str} {sp sp' : Sp} (G : FnOk P w K mg base CX k f fd ps sp) (G' : FnOk P w K mg base CX k f fd ps sp') : FnOk P w K mg base CX k f fd ps (fun vs H Q E => sp vs H Q E ∨ sp' vs H Q E) :=
  ⟨fun vs H Q E h => h.elim (G.len vs H Q E) (G'.len vs H Q E), fun A outer s H args us vs Q E hr e0 hb r h => h.elim (G.run A outer s H args us vs Q E hr e0 hb r) (G'.run A outer s H args us vs Q E hr e0 hb r)⟩
/-- no tuple -/
def NoTup (K : Frag) (H : Hp) (v : V) : Prop := ∃ t, TyX K H v (.type t) ∧ kitOne K (.type t) (.type "tuple") = some false
/-- no class of these kinds is C's -/
def NoC (K : Frag) (C : Addr) : Prop := ∀ t ∈ tyNames, kitOne K (.type t) (.ref C) = some false
def spTabN (K : Frag) : Sp := fun vs H Q _ => ∃ v wd most, vs = [v, .int wd, .int most] ∧ NoTup K H v ∧ Q (.bl false) H
def spAscN (K : Frag) : Sp := fun vs H Q _ => ∃ v m, vs = [v, .int m] ∧ NoTup K H v ∧ Q (.bl false) H
/-- things that are machines, or plain values -/
def MsOr (C : Addr) (H : Hp) (xs : List V) : Prop := ∀ x ∈ xs, OV H x ∨ ∃ a, x = .ref a ∧ InsAt C H a
def AllMs (C : Addr) (H : Hp) (xs : List V) : Prop := ∀ x ∈ xs, ∃ a, x = .ref a ∧ InsAt C H a
theorem ov_ins {C : Addr} {H : Hp} {x : V} (h : OV H x) : ¬ ∃ a, x = .ref a ∧ InsAt C H a := fun ⟨a, e, dx, fs, z⟩ => by
  subst e
  cases h with
  | tup q => rw [q] at z; cases z
  | lst q => rw [q] at z; cases z
  | dic q => rw [q] at z; cases z
def spNMx (K : Frag) (C cM : Addr) : Sp := fun vs H Q E => ∃ (t : Addr) (xs : List V), vs = [.ref t] ∧ SqT K H t xs ∧ MsOr C H xs ∧ ((AllMs C H xs ∧ Q .non H) ∨ ((∃ x ∈ xs, OV H x) ∧ E (.ref cM) none H))
def spNBx (C cB : Addr) : Sp := fun vs H Q E => ∃ v, vs = [v] ∧ (((∃ o L tb, v = .ref o ∧ BoxAt C H o L tb) ∧ Q .non H) ∨ (OV H v ∧ E (.ref cB) none H))
def spNSx (cO : Addr) : Sp := fun vs H Q E => ∃ x y : Str, vs = [.str x, .str y] ∧ ((x = y ∧ Q .non H) ∨ (x ≠ y ∧ E (.ref cO) none H))
def spNAx (K : Frag) (C CB cM cB : Addr) : Sp := fun vs H Q E => ∃ (t : Addr) (xs : List V) (v : V), vs = [.ref t, v] ∧ SqT K H t xs ∧ MsOr C H xs ∧ (((∃ x ∈ xs, OV H x) ∧ E (.ref cM) none H) ∨ (AllMs C H xs ∧ (((∃ o L tb, v = .ref o ∧ BoxAt CB H o L tb) ∧ Q .non H) ∨ (OV H v ∧ E (.ref cB) none H))))
def MsL (C : Addr) (H : Hp) (xs : List V) (L : W) : Prop := ∀ x ∈ xs, ∃ a tb es, x = .ref a ∧ MacAt C H a L tb es
def spNLs (K : Frag) (C CB cO : Addr) : Sp := fun vs H Q E => ∃ (t o : Addr) (xs : List V) (L L' : W) (tb : List (List Int)), vs = [.ref t, .ref o] ∧ SqT K H t xs ∧ MsL C H xs L ∧ BoxAt CB H o L' tb ∧ ((L = L' ∧ Q .non H) ∨ (xs ≠ [] ∧ tx L ≠ tx L' ∧ E (.ref cO) none H))
/-- what no tuple of one to eight machines is -/
def BadMs (C : Addr) (H : Hp) (v : V) : Prop := (∃ t xs, v = .ref t ∧ H t = some (.tup xs) ∧ xs.length ≤ 100 ∧ MsOr C H xs ∧ ((∃ x ∈ xs, OV H x) ∨ xs = [] ∨ 8 < xs.length)) ∨ (OV H v ∧ ∀ t xs, v = .ref t → H t ≠ some (.tup xs))
def spNSm (K : Frag) (C cM : Addr) : Sp := fun vs H Q E => ∃ v, vs = [v] ∧ ((∃ t xs, v = .ref t ∧ SqT K H t xs ∧ 1 ≤ xs.length ∧ xs.length ≤ 8 ∧ AllMs C H xs ∧ Q .non H) ∨ (BadMs C H v ∧ E (.ref cM) none H))
section
variable {P : Program} {w : World} {K : PySem.W.Frag} {mg : Str → Option Value} {base : Heap} {cN cO cW cM cB cI C CB cD cDB : Addr}
theorem OV.noTup {H : Hp} {v : V} (h : OV H v) (n : ∀ t xs, v = .ref t → H t ≠ some (.tup xs)) : NoTup K H v := by
  rcases h.tuple (K := K) with ⟨a, xs, rfl, e⟩ | h
  · exact absurd e (n a xs rfl)
  · exact h
theorem ok_tabN {f : Addr} {fd : FuncData} (F : Fun K "is_table" "is_table" sIsTab f fd) (T : TN mg) : FnOk P w K mg base CX0 4 f fd ["value", "width", "most"] (spTabN K) := by
  refine F.ok scTb (fun vs H Q E h => ?_) (fun cdv A outer s H vs Q E hr h => ?_)
  · obtain ⟨v, wd, m, rfl, _⟩ := h
    rfl
  · obtain ⟨v, wd, m, rfl, ⟨t, ty, hk⟩, q⟩ := h
    refine ⟨_, pss_cons (ps_if (PW.pt (pw_or (pt_not (pt_val (pe_callB call_isi (by rfl) T.isi (by decide +kernel) (pa_cons (pv 0) (pa_cons (pe_ty "tuple" T.tuple (by decide +kernel)) pa_nil)))))
        (pw_or1 (pt_not (pt_chain op_le op_le pe_int (pe_callB call_len_seq (by rfl) T.len PySem.boot_len (pa_cons (pv 0) pa_nil)) (pv 2)))))) (pss_one (ps_ret pe_bl)) pss_nil) pss_never, ?_⟩
    exact ⟨_, rfl, _, _, _, _, false, rfl, .ty "tuple", ty, hk, false, rfl, q⟩
theorem ok_ascN {f : Addr} {fd : FuncData} (F : Fun K "is_ascending" "is_ascending" sIsAsc f fd) (T : TN mg) : FnOk P w K mg base CX0 3 f fd ["value", "many"] (spAscN K) := by
  refine F.ok scIA (fun vs H Q E h => ?_) (fun cdv A outer s H vs Q E hr h => ?_)
  · obtain ⟨v, m, rfl, _⟩ := h
    rfl
  · obtain ⟨v, m, rfl, ⟨t, ty, hk⟩, q⟩ := h
    refine ⟨_, pss_cons (ps_if (pt_not (pt_val (pe_callB call_isi (by rfl) T.isi (by decide +kernel) (pa_cons (pv 0) (pa_cons (pe_ty "tuple" T.tuple (by decide +kernel)) pa_nil))))) (pss_one (ps_ret pe_bl)) pss_nil) pss_never, ?_⟩
    exact ⟨_, rfl, _, _, _, _, false, rfl, .ty "tuple", ty, hk, false, rfl, q⟩
theorem ok_nmx {f : Addr} {fd : FuncData} (F : Fun K "need_machines" "need_machines" sNeedMs f fd) (T : TN mg) (M : TMc K mg C cD cI) (Y : TBy K C) (N : NoC K C) (R : Rs K mg "InvalidMachine" cM) : FnOk P w K mg base (L2.CX P w) 1 f fd ["machines"] (spNMx K C cM) := by
  refine F.okX scNM (fun vs H Q E h => ?_) (fun cdv A outer s H vs Q E hr h => ?_)
  · obtain ⟨t, _, rfl, _⟩ := h
    rfl
  · obtain ⟨t, xs, rfl, hT, ms, h⟩ := h
    refine ⟨_, pss_one (ps_for (passes_of rfl) rfl (pi_tup (pv 0)) (pg_name (i := 1) scNM.nd rfl (Or.inl rfl))
      (pss_one (ps_if (pt_not (pt_val (pe_callB call_isi (by rfl) T.isi (by decide +kernel) (pa_cons (pv 1) (pa_cons (pe_glob rfl M.gC (show RelV (.ref C) (.ref C) from rfl)) pa_nil))))) (pss_one (ps_raise rfl (takes_of rfl rfl rfl rfl) (pmk_own PySem.F.excBase_ValueError R.x R.g R.k (raises_own R.b R.t) rfl))) pss_nil))), ?_⟩
    refine ⟨_, rfl, t, rfl, ⟨_, hT⟩, ?_⟩
    refine for_tup (xs := xs) (fun i σ H' => (∃ x, σ = [some (.ref t), x]) ∧ H' = H ∧ AllMs C H (xs.take i)) ⟨⟨_, rfl⟩, rfl, fun x hx => absurd hx List.not_mem_nil⟩ (fun _ _ H' _ h => by rw [h.2.1]; exact hT) ?_ ?_
    · rintro i x σ H2 hx ⟨⟨y, rfl⟩, rfl, pre⟩
      have hm := List.mem_of_getElem? hx
      rcases ms x hm with ov | ⟨z, rfl, dx, fs, hz⟩
      · obtain ⟨tn, ht, ty⟩ := ov.ty (K := K)
        refine ⟨_, rfl, _, _, _, _, false, rfl, .own C, ty, N _ ht, _, rfl, ?_⟩
        rcases h with ⟨all, q⟩ | ⟨_, q⟩
        · exact absurd (all x hm) (ov_ins ov)
        · exact q
      · refine ⟨_, rfl, _, _, _, _, true, rfl, .own C, .base (.ins hz M.cl Y.is.ca Y.is.cn Y.is.ct Y.is.cm), Y.kC, _, rfl, ⟨_, rfl⟩, rfl, fun x hx' => ?_⟩
        rw [List.take_add_one, hx] at hx'
        rcases List.mem_append.mp hx' with z1 | z1
        · exact pre x z1
        · rw [List.mem_singleton.mp z1]
          exact ⟨z, rfl, dx, fs, hz⟩
    · rintro σ H2 ⟨⟨y, rfl⟩, rfl, all⟩
      rw [List.take_length] at all
      rcases h with ⟨_, q⟩ | ⟨⟨x, hx, ov⟩, q⟩
      · exact q
      · exact absurd (all x hx) (ov_ins ov)
theorem ok_nbx {f : Addr} {fd : FuncData} (F : Fun K "need_box" "need_box" sNeedBox f fd) (T : TN mg) (M : TBx K mg CB cDB) (Y : TBy K CB) (N : NoC K CB) (R : Rs K mg "InvalidBox" cB) : FnOk P w K mg base (L2.CX P w) 1 f fd ["box"] (spNBx CB cB) := by
  refine F.okX scNB (fun vs H Q E h => ?_) (fun cdv A outer s H vs Q E hr h => ?_)
  · obtain ⟨v, rfl, _⟩ := h
    rfl
  · obtain ⟨v, rfl, h⟩ := h
    refine ⟨_, pss_one (ps_if (pt_not (pt_val (pe_callB call_isi (by rfl) T.isi (by decide +kernel) (pa_cons (pv 0) (pa_cons (pe_glob rfl M.gC (show RelV (.ref CB) (.ref CB) from rfl)) pa_nil))))) (pss_one (ps_raise rfl (takes_of rfl rfl rfl rfl) (pmk_own PySem.F.excBase_ValueError R.x R.g R.k (raises_own R.b R.t) rfl))) pss_nil), ?_⟩
    rcases h with ⟨⟨o, L, tb, rfl, dx, r, h1, rows⟩, q⟩ | ⟨ov, q⟩
    · exact ⟨_, rfl, _, _, _, _, true, rfl, .own CB, .base (.ins h1 M.cl Y.is.ca Y.is.cn Y.is.ct Y.is.cm), Y.kC, _, rfl, q⟩
    · obtain ⟨tn, ht, ty⟩ := ov.ty (K := K)
      exact ⟨_, rfl, _, _, _, _, false, rfl, .own CB, ty, N _ ht, _, rfl, q⟩
theorem ok_nsx {f : Addr} {fd : FuncData} (F : Fun K "need_same_letters" "need_same_letters" sSame f fd) (R : Rs K mg "InvalidOperation" cO) : FnOk P w K mg base (L2.CX P w) 1 f fd ["one", "other"] (spNSx cO) := by
  refine F.okX scSm (fun vs H Q E h => ?_) (fun cdv A outer s H vs Q E hr h => ?_)
  · obtain ⟨x, y, rfl, _⟩ := h
    rfl
  · obtain ⟨x, y, rfl, h⟩ := h
    refine ⟨_, pss_one (ps_if (pt_cmpR op_ne (pv 0) (pv 1) (nomark _)) (pss_one (ps_raise rfl (takes_of rfl rfl rfl rfl) (pmk_own PySem.F.excBase_ValueError R.x R.g R.k (raises_own R.b R.t) rfl))) pss_nil), ?_⟩
    refine ⟨_, rfl, _, rfl, rfl, _, rfl, ?_⟩
    rcases h with ⟨e, q⟩ | ⟨e, q⟩
    · rw [decide_eq_true (by rw [e])]
      exact q
    · rw [decide_eq_false (fun z => e (V.str.inj z))]
      exact q
theorem ok_nax {f : Addr} {fd : FuncData} (F : Fun K "_need" "_need" sNeedAll f fd) (hM : Has P w K mg base (L2.CX P w) 1 "need_machines" ["machines"] (spNMx K C cM)) (hB : Has P w K mg base (L2.CX P w) 1 "need_box" ["box"] (spNBx CB cB)) : FnOk P w K mg base (L2.CX P w) 2 f fd ["machines", "box"] (spNAx K C CB cM cB) := by
  refine F.okX scNA (fun vs H Q E h => ?_) (fun cdv A outer s H vs Q E hr h => ?_)
  · obtain ⟨t, _, _, rfl, _⟩ := h
    rfl
  · obtain ⟨t, xs, v, rfl, hT, ms, h⟩ := h
    refine ⟨_, pss_cons (ps_expr (pe_has (E := E) hM hr (passes_call (takes_of rfl rfl rfl rfl) (fun _ _ _ _ h => h)) (pa_cons (pv 0) pa_nil))) (pss_one (ps_expr (pe_has (E := E) hB hr (passes_call (takes_of rfl rfl rfl rfl) (fun _ _ _ _ h => h)) (pa_cons (pv 1) pa_nil)))), ?_⟩
    refine ⟨_, rfl, t, xs, rfl, hT, ms, ?_⟩
    rcases h with ⟨b, q⟩ | ⟨all, h⟩
    · exact .inr ⟨b, q⟩
    · exact .inl ⟨all, _, rfl, v, rfl, h⟩
theorem ok_nls {f pL gL pM gM : Addr} {fd dL dM : FuncData} (F : Fun K "_need_letters" "_need_letters" sNeedLs f fd) (M : TMc K mg C cD cI) (MB : TBx K mg CB cDB) (RB : PropOf K CB "letters" pL gL) (GB : FnOk P w K mg base CX0 1 gL dL ["self"] (getSp CB "_letters")) (bB : Binds K dL ["self"] [])
    (RM : PropOf K C "letters" pM gM) (GM : FnOk P w K mg base CX0 1 gM dM ["self"] (getSp C "_letters")) (bM : Binds K dM ["self"] []) (hS : Has P w K mg base (L2.CX P w) 1 "need_same_letters" ["one", "other"] (spNSx cO)) :
    FnOk P w K mg base (L2.CX P w) 3 f fd ["machines", "box"] (spNLs K C CB cO) := by
  refine F.okX scNS (fun vs H Q E h => ?_) (fun cdv A outer s H vs Q E hr h => ?_)
  · obtain ⟨t, o, _, _, _, _, rfl, _⟩ := h
    rfl
  · obtain ⟨t, o, xs, L, L', tb, rfl, hT, ms, ⟨dxb, rb, hbx, _⟩, h⟩ := h
    have hr1 : Room 1 _ := hr.mono (by decide)
    refine ⟨_, pss_one (ps_for (passes_of rfl) rfl (pi_tup (pv 0)) (pg_name (i := 2) scNS.nd rfl (Or.inl rfl))
      (pss_one (ps_expr (pe_has (E := E) hS hr1 (passes_call (takes_of rfl rfl rfl rfl) (fun _ _ _ _ h => h)) (pa_cons (pe_prop (E := E0) (pv 2) M.cl RM GM hr bM .nil pass0 rfl) (pa_cons (pe_prop (E := E0) (pv 1) MB.cl RB GB hr bB .nil pass0 rfl) pa_nil)))))), ?_⟩
    refine ⟨_, rfl, t, rfl, ⟨_, hT⟩, ?_⟩
    refine for_tup (xs := xs) (fun i σ H' => (∃ x, σ = [some (.ref t), some (.ref o), x]) ∧ H' = H ∧ (L = L' ∨ i = 0)) ⟨⟨_, rfl⟩, rfl, .inr rfl⟩ (fun _ _ H' _ h => by rw [h.2.1]; exact hT) ?_ ?_
    · rintro i x σ H2 hx ⟨⟨y, rfl⟩, rfl, _⟩
      obtain ⟨z, tb1, es, rfl, mac⟩ := ms x (List.mem_of_getElem? hx)
      obtain ⟨dx, u, v, _, hz, _⟩ := mac.ex
      refine ⟨_, rfl, z, dx, _, rfl, hz, z, dx, _, _, rfl, hz, mfl_L, _, rfl, o, dxb, _, rfl, hbx, o, dxb, _, _, rfl, hbx, bfl_L, tx L, tx L', rfl, ?_⟩
      rcases h with ⟨e, q⟩ | ⟨_, e, q⟩
      · exact .inl ⟨by rw [e], ⟨_, rfl⟩, rfl, .inl e⟩
      · exact .inr ⟨e, q⟩
    · rintro σ H2 ⟨⟨y, rfl⟩, rfl, e⟩
      rcases h with ⟨_, q⟩ | ⟨n, e2, q⟩
      · exact q
      · rcases e with e | e
        · exact absurd (by rw [e]) e2
        · exact absurd (List.length_eq_zero_iff.mp e) n
theorem scSome : FnScope ["machines"] ["machines"] (defScope sNeedSome) := ⟨rfl, rfl, rfl, by decide +kernel, rfl, by decide +kernel, by decide +kernel⟩
theorem ok_nsm {f : Addr} {fd : FuncData} (F : Fun K "_need_some" "_need_some" sNeedSome f fd) (T : TN mg) (most : ∃ t, mg "_MOST_MACHINES" = some (.int 8 t)) (hM : Has P w K mg base (L2.CX P w) 1 "need_machines" ["machines"] (spNMx K C cM)) (R : Rs K mg "InvalidMachine" cM) : FnOk P w K mg base (L2.CX P w) 2 f fd ["machines"] (spNSm K C cM) := by
  obtain ⟨tm, most⟩ := most
  refine F.okX scSome (fun vs H Q E h => ?_) (fun cdv A outer s H vs Q E hr h => ?_)
  · obtain ⟨v, rfl, _⟩ := h
    rfl
  · obtain ⟨v, rfl, h⟩ := h
    refine ⟨_, pss_cons (ps_if (PW.pt (pw_or (pt_not (pt_val (pe_callB call_isi (by rfl) T.isi (by decide +kernel) (pa_cons (pv 0) (pa_cons (pe_ty "tuple" T.tuple (by decide +kernel)) pa_nil)))))
        (pw_or1 (pt_not (pt_chain op_le op_le pe_int (pe_callB call_len_seq (by rfl) T.len PySem.boot_len (pa_cons (pv 0) pa_nil)) (pe_glob rfl most (show RelV (.int 8) (.int 8 tm) from ⟨tm, rfl⟩))))))) (pss_one (ps_raise rfl (takes_of rfl rfl rfl rfl) (pmk_own PySem.F.excBase_ValueError R.x R.g R.k (raises_own R.b R.t) rfl))) pss_nil)
      (pss_one (ps_expr (pe_has (E := E) hM hr (passes_call (takes_of rfl rfl rfl rfl) (fun _ _ _ _ h => h)) (pa_cons (pv 0) pa_nil)))), ?_⟩
    rcases h with ⟨t, xs, rfl, hT, l1, l8, all, q⟩ | ⟨⟨t, xs, rfl, hT, l, ms, h⟩ | ⟨ov, n⟩, q⟩
    · refine ⟨_, rfl, _, _, _, _, true, rfl, .ty "tuple", tyT hT, kit_ty (by decide +kernel), true, rfl, ?_⟩
      refine ⟨_, rfl, t, xs, rfl, .inr hT, _, _, rfl, rfl, _, rfl, ?_⟩
      rw [decide_eq_true (show (1 : Int) ≤ (xs.length : Int) by omega)]
      refine ⟨_, _, rfl, rfl, _, rfl, ?_⟩
      rw [decide_eq_true (show (xs.length : Int) ≤ 8 by omega)]
      exact ⟨_, rfl, t, xs, rfl, hT, fun x hx => .inr (all x hx), .inl ⟨all, q⟩⟩
    · have hT := SqT.of (K := K) hT
      refine ⟨_, rfl, _, _, _, _, true, rfl, .ty "tuple", tyT hT, kit_ty (by decide +kernel), true, rfl, ?_⟩
      refine ⟨_, rfl, t, xs, rfl, .inr hT, _, _, rfl, rfl, _, rfl, ?_⟩
      by_cases h1 : (1 : Int) ≤ (xs.length : Int)
      · rw [decide_eq_true h1]
        refine ⟨_, _, rfl, rfl, _, rfl, ?_⟩
        by_cases h2 : (xs.length : Int) ≤ 8
        · rw [decide_eq_true h2]
          refine ⟨_, rfl, t, xs, rfl, hT, ms, .inr ⟨?_, q⟩⟩
          rcases h with h | h | h
          · exact h
          · rw [h] at h1
            exact absurd h1 (by decide)
          · omega
        · rw [decide_eq_false h2]
          exact q
      · rw [decide_eq_false h1]
        exact ⟨_, rfl, q⟩
    · obtain ⟨tn, ty, hk⟩ := ov.noTup (K := K) n
      exact ⟨_, rfl, _, _, _, _, false, rfl, .ty "tuple", ty, hk, false, rfl, q⟩
end
end WK
set_option Elab.async false
set_option linter.all false
set_option maxRecDepth 100000
set_option maxHeartbeats 4000000
namespace OWN
open PySem PySem.Spec PyProof.Rows L2
section
variable {prog : Program} {w : World} {K : PySem.W.Frag} {op : Operator} {s : Shared} {A : Around} {E : Value → Shared → Prop} {Q : Value → Shared → Prop} {x C f : Addr} {ox : Obj} {od : Option Obj} {b : Value} {n : String} {right : Bool} {rv : Option Value}
theorem inPython_K {M : Model} {h : Heap} {nm : String} (X : K.In h) (hs : PySem.W.findIn K (.ref C) (PySem.dunder nm) = some (some (.ref f))) (hno : PySem.W.findIn K (.ref C) (dunderR nm) = some none) : PySem.W.Looks M h (numberSlotInPython (.ref C) nm) true := by
  intro A Q E s k q
  unfold numberSlotInPython
  refine wpAny_bind (PySem.W.looks_findIn X hs A _ E s k ?_)
  refine wpAny_bind (m := calledByName (.ref C) (dunder nm) (some (.ref f))) (wpAny_pure ?_)
  refine wpAny_bind (PySem.W.looks_findIn X hno A _ E s k ?_)
  refine wpAny_bind (m := calledByName (.ref C) (dunderR nm) none) (wpAny_pure ?_)
  simp only [Bool.or_false, if_true]
  exact wpAny_pure q
theorem bin1_raise {nm : String} {Q : Option Value → Shared → Prop} (X : K.In s.heap) (I : PySem.W.InstAt s.heap x ox C od) (hb : PySem.W.Looks (model prog w) s.heap (typeOf b) (.type n)) (hc : PySem.W.selfFirst K C = true)
    (hs : PySem.W.findIn K (.ref C) (PySem.dunder nm) = some (some (.ref f))) (hf : PySem.W.isFn K (.ref f) = true) (hfill : fillsNumberSlot (.type n) nm = pure right) (hsub : PySem.W.subIn K (.type n) (.ref C) = some false)
    (hno : PySem.W.findIn K (.ref C) (dunderR nm) = some none) (hrv : typeLookup (.type n) (dunderR nm) = pure rv)
    (h : wpAny (model prog w) A (call (.ref f) [.ref x, b]) (fun _ _ => False) E s) : wpAny (model prog w) A (binaryOp1 nm (.ref x) b) Q E s := by
  obtain ⟨cd, hcd, foremost⟩ := PySem.W.any_some hc
  obtain ⟨more, hm⟩ : ∃ l, cd.mro = .ref C :: l := by
    generalize cd.mro = chain at foremost ⊢
    match chain, foremost with
    | [], z => exact nomatch z
    | v :: l, z => exact ⟨l, congrArg (fun u => u :: l) (Option.some.inj (beq_iff_eq.mp z))⟩
  have last : ∀ {Q' : Option Value → Shared → Prop}, wpAny (model prog w) A (tryMethod (.ref x) (PySem.dunder nm) b) Q' E s := by
    intro Q'
    unfold tryMethod
    exact wpAny_bind (PySem.W.special_fn X I hs (beq_iff_eq.mp hf) (wpAny_mono h (fun v s' hv => hv.elim) fun _ _ e => e))
  unfold binaryOp1
  refine wpAny_bind (I.type.here (wpAny_bind (hb.here (wpAny_bind ((PySem.W.fills_K X hcd hm hs).here ?_)))))
  have ne : ((Value.ref C : Value) == .type n) = false := rfl
  rw [ne]
  simp only [Bool.false_eq_true, if_false]
  rw [hfill]
  refine wpAny_bind (wpAny_pure ?_)
  cases right with
  | false =>
    simp only [Bool.and_false, Bool.false_eq_true, if_false, Bool.false_and, if_true]
    refine wpAny_bind (wpAny_pure ?_)
    simp only [Bool.false_eq_true, if_false]
    exact wpAny_bind last
  | true =>
    simp only [Bool.and_true, if_true]
    refine wpAny_bind ((PySem.W.looks_subIn X hsub).here ?_)
    simp only [Bool.false_eq_true, if_false, Bool.not_false, Bool.and_true, if_true]
    refine wpAny_bind ((inPython_K X hs hno).here ?_)
    simp only [if_true]
    refine wpAny_bind (m := numberSlotInPython (.type n) nm) (wpAny_pure ?_)
    simp only [Bool.not_false, if_true]
    rw [hrv]
    refine wpAny_bind (wpAny_pure ?_)
    exact wpAny_bind last
theorem bin_raise (X : K.In s.heap) (I : PySem.W.InstAt s.heap x ox C od) (hb : PySem.W.Looks (model prog w) s.heap (typeOf b) (.type n)) (hc : PySem.W.selfFirst K C = true)
    (hs : PySem.W.findIn K (.ref C) (PySem.dunder op.info.2) = some (some (.ref f))) (hf : PySem.W.isFn K (.ref f) = true) (hfill : fillsNumberSlot (.type n) op.info.2 = pure right) (hsub : PySem.W.subIn K (.type n) (.ref C) = some false)
    (hno : PySem.W.findIn K (.ref C) (dunderR op.info.2) = some none) (hrv : typeLookup (.type n) (dunderR op.info.2) = pure rv)
    (h : wpAny (model prog w) A (call (.ref f) [.ref x, b]) (fun _ _ => False) E s) : wpAny (model prog w) A (binaryOp op (.ref x) b) Q E s :=
  wpAny_holding (wpAny_bind (bin1_raise X I hb hc hs hf hfill hsub hno hrv h))
/-- a built-in type beside an operator: whether its slot is filled, and what is reflected -/
structure Beside (K : PySem.W.Frag) (C : Addr) (nm : String) (n : String) : Prop where
  ex : ∃ right rv, fillsNumberSlot (.type n) nm = pure right ∧ typeLookup (.type n) (dunderR nm) = pure rv
  sub : PySem.W.subIn K (.type n) (.ref C) = some false
def rBinX (K : PySem.W.Frag) (C : Addr) (nm : String) (sp : Sp) (E : XK) : R2 := fun x y H Q => ∃ a dx fs n, x = .ref a ∧ H a = some (.ins C dx fs) ∧ TyX K H y (.type n) ∧ Beside K C nm n ∧ sp [.ref a, y] H (fun _ _ => False) E
theorem op_binX {X : Cx} {CX : CXT} {C g : Addr} {k : Nat} {sp : Sp} {E : XK} {op : Operator} (hs : PySem.W.findIn X.K (.ref C) (PySem.dunder op.info.2) = some (some (.ref g))) (hf : PySem.W.isFn X.K (.ref g) = true) (hc : PySem.W.selfFirst X.K C = true) (hno : PySem.W.findIn X.K (.ref C) (dunderR op.info.2) = some none)
    (F : FnR X.prog X.w X.K X.mg X.base CX k g sp) (hr : Room k X.A) (hx : Passes CX X E) : OpR X (binaryOp op) (rBinX X.K C op.info.2 sp E) := by
  intro pins s σ H x y v u Q I rx ry h0
  obtain ⟨a, dx, fs, n, rfl, ha, ty, ⟨⟨right, rv, h1, h2⟩, sub⟩, q⟩ := h0
  obtain rfl : v = .ref a := rx
  obtain ⟨od, J⟩ := inst_at I ha
  obtain ⟨P, kx, px, _⟩ := kit_of I ry ty
  refine bin_raise I.kIn J (kx.ty _ _ I.kIn px) hc hs hf h1 sub hno h2 ?_
  refine wpAny_mono (wpAny_call (run_fnR (us := [.ref a, u]) (vs := [.ref a, y]) F hr hx I (.cons rfl (.cons ry .nil)) q)) (fun w s' z => ?_) fun _ _ x => x
  exact let ⟨_, _, _, _, z⟩ := z; z
end
end OWN
set_option Elab.async false
set_option linter.all false
set_option maxRecDepth 100000
set_option maxHeartbeats 4000000
namespace MKW
open PySem PySem.Spec PyProof.Rows L2
def tMethN (C : Addr) (m : Str) (n q : Nat) (sp : Sp) (gV : List V → List V → List V) (E : XK) (ta : TE) (t tk : TA) : TE := fun σ H Q => ta σ H fun x H1 => ∃ a dx fs, x = .ref a ∧ H1 a = some (.ins C dx fs) ∧ fs.lookup m = none ∧
  t σ H1 fun vs H2 => tk σ H2 fun zs H3 => vs.length + 1 = n ∧ zs.length = q ∧ sp (gV (x :: vs) zs) H3 Q E
theorem pe_methN {X : Cx} {CX : CXT} {k n : Nat} {f C : Addr} {fd : FuncData} {ps ks : List Str} {sp : Sp} {E : XK} {m : Str} {pos apos : Pos} {e o : Expr} {es : List Expr} {kws : List Keyword} {ta : TE} {t tk : TA} {g : List Value → List Value → List Value} {gV : List V → List V → List V} {pl : Sem Bool}
    (he : PE X o ta) (c : Cls X.K C) (hm : Meth X.K C m f) (F : FnOk X.prog X.w X.K X.mg X.base CX k f fd ps sp) (hr : Room k X.A) (hb : KBn X.K fd ps n ks g gV) (hx : Passes CX X E) (ha : PA X (e :: es) t) (hk : PK X kws tk)
    (h1 : ((backToKw pos (keywordEach kws X.env)).all fun x => x.1.isSome) = true := by rfl) (h2 : (backToKw pos (keywordEach kws X.env)).filterMap (·.1) = ks := by rfl)
    (hst : starEach (e :: es) X.env = (false, eval e X.env) :: starEach es X.env := by rfl) (hpl : (((backTo pos (starEach (e :: es) X.env)).any (·.1)) || ((backToKw pos (keywordEach kws X.env)).any fun x => x.1.isNone)) = false := by rfl)
    (ht : eval (.Call (.Attribute o m apos) (e :: es) kws pos) X.env = (do
      let ov ← eval o X.env
      standAt apos.atName
      let (f, first) ← holding [ov] (getMethod ov m pl)
      callWith pos f first (backTo pos (starEach (e :: es) X.env)) (backToKw pos (keywordEach kws X.env))) := by rfl) :
    PE X (.Call (.Attribute o m apos) (e :: es) kws pos) (tMethN C m n ks.length sp gV E ta t tk) := by
  refine ⟨fun pins s σ H Q I h => ?_⟩
  refine PySem.W.methodCall_KW (thn (he.run pins s σ H _ I h) fun u s1 ⟨x, H1, I1, rx, a, dx, fs, ex, ea, l, q⟩ => ?_) ht
  subst ex
  cases (rx : u = Value.ref a)
  refine getmeth_ok I1 ea c hm l ?_
  refine PySem.W.callWith_KW (h₀ := X.base) I.ok.mod.kin hm.kp h1 (thn (ha.run pos pins s1 σ H1 _ I1 q) fun us s2 ⟨vs, H2, I2, r, q2⟩ => thn (hk.run pos pins s2 σ H2 _ I2 q2) fun ws s3 ⟨zs, H3, I3, r3, l1, l2, q3⟩ => ⟨I3.kIn, ?_⟩) hpl hst
  rw [h2]
  exact run_fnN F hr hb hx I3 (.cons (show RelV (.ref a) (.ref a) from rfl) r) r3 l1 l2 q3
end MKW
set_option Elab.async false
set_option linter.all false
set_option maxRecDepth 100000
set_option maxHeartbeats 4000000
namespace RM
open PySem L2 PyProof.Rows WK
abbrev sBPlace : Stmt := inClass (top 63) 10
abbrev sBAct : Stmt := inClass (top 63) 11
abbrev sBFirst : Stmt := inClass (top 63) 12
abbrev NPl : List Str := ["self", "word", "start", "times"]
abbrev plFd (D : Addr) (doc pm : Value) (an : Option Addr) (cdv ct : Value) : FuncData := PySem.W.fnOf "place" "Box.place" (defArgs sBPlace) (defBody sBPlace) (defScope sBPlace) .none (.ref D) doc pm an cdv ct
theorem plA (D : Addr) (doc pm : Value) (an : Option Addr) (cdv ct : Value) (a b c k : Value) : bindArgs (plFd D doc pm an cdv ct) ⟨[a, b, c], [(("times" : Str), k)]⟩ = pure [(("self" : Str), a), ("word", b), ("start", c), ("times", k)] := rfl
theorem plB (D : Addr) (doc pm : Value) (an : Option Addr) (cdv ct : Value) (a b c k : Value) : KwChain D [(("times" : Str), k)] (bindArgs (plFd D doc pm an cdv ct) ⟨[a, b, c], []⟩) [(("self" : Str), a), ("word", b), ("start", c), ("times", k)] := by
  rw [KwChain]
  exact ⟨_, _, _, _, _, _, rfl, rfl, rfl⟩
theorem place_kbn {K : PySem.W.Frag} {D : Addr} {doc pm : Value} {an : Option Addr} {cdv ct : Value} : KBn K (plFd D doc pm an cdv ct) ["self", "word", "start", "times"] 3 ["times"] (fun us ws => us ++ ws) (fun vs zs => vs ++ zs) := by
  refine ⟨fun s us ws hin l1 l2 => ?_, fun r1 r2 => r1.append r2⟩
  match us, ws, l1, l2 with
  | [a, b, c], [k], _, _ =>
    intro M A E Q q
    show wpAny M A (bindArgs (plFd D doc pm an cdv ct) ⟨[a, b, c], [(("times" : Str), k)]⟩) Q E s
    rw [plA]
    exact wpAny_pure q
theorem place_binds {K : PySem.W.Frag} {f : Addr} {fd : FuncData} (F : FunD K "place" "Box.place" (defArgs sBPlace) (defBody sBPlace) (defScope sBPlace) [] [("times", .int 1)] f fd) : ∃ ds, Vals [V.int 1] ds ∧ L2.Binds K fd ["self", "word", "start", "times"] ds := by
  refine F.binds0 (ps := ["self", "word", "start", "times"]) 3 (fun z => nomatch z) rfl fun D doc pm an cdv ct us ks l1 l2 => ?_
  match us, ks, l1, l2 with
  | [a, b, c], [k], _, _ => exact plB D doc pm an cdv ct a b c k
theorem place_one {K : PySem.W.Frag} {f : Addr} {fd : FuncData} (F : FunD K "place" "Box.place" (defArgs sBPlace) (defBody sBPlace) (defScope sBPlace) [] [("times", .int 1)] f fd) : ∃ v1, RelV (.int 1) v1 ∧ L2.Binds K fd ["self", "word", "start", "times"] [v1] := by
  obtain ⟨ds, r, b⟩ := place_binds F
  obtain ⟨v1, rfl, r1⟩ := r.one
  exact ⟨v1, r1, b⟩
end RM
set_option Elab.async false
set_option linter.all false
set_option maxRecDepth 100000
set_option maxHeartbeats 8000000
namespace WK
open PySem L2 PyProof.Rows LCX K1 FV LamX NdefX RM
open TX (sg sigs)
open PySem.W (Frag kitOne)
abbrev sBxI : Stmt := inClass (top 63) 0
abbrev sWindowM : Stmt := inClass (top 63) 1
abbrev sHeadsM : Stmt := inClass (top 63) 2
abbrev sPiecesM : Stmt := inClass (top 63) 3
abbrev sCapsM : Stmt := inClass (top 63) 4
abbrev sRestsM : Stmt := inClass (top 63) 5
abbrev sClerkM : Stmt := inClass (top 63) 6
abbrev sBxMach : Stmt := inClass (top 63) 14
abbrev sBxAnd : Stmt := inClass (top 63) 15
/-- a plain value, and no tuple -/
inductive NV (H : Hp) : V → Prop
  | non : NV H .non
  | int (i : Int) : NV H (.int i)
  | bl (b : Bool) : NV H (.bl b)
  | str (x : Str) : NV H (.str x)
  | lst {a : Addr} {xs : List V} (h : H a = some (.lst xs)) : NV H (.ref a)
  | dic {a : Addr} {xs : List (Key × V)} (h : H a = some (.dK xs)) : NV H (.ref a)
theorem NV.ov {H : Hp} {v : V} (h : NV H v) : OV H v := by
  cases h with
  | non => exact .non
  | int i => exact .int i
  | bl b => exact .bl b
  | str x => exact .str x
  | lst h => exact .lst h
  | dic h => exact .dic h
theorem NV.to {H H' : Hp} {v : V} (h : NV H v) (k : ∀ a o, v = .ref a → H a = some o → H' a = some o) : NV H' v := by
  cases h with
  | non => exact .non
  | int i => exact .int i
  | bl b => exact .bl b
  | str x => exact .str x
  | lst h => exact .lst (k _ _ rfl h)
  | dic h => exact .dic (k _ _ rfl h)
theorem NV.noTup {K : Frag} {H : Hp} {v : V} (h : NV H v) : NoTup K H v := by
  cases h with
  | non => exact ⟨_, .base .non, kit_ty (by decide +kernel)⟩
  | int i => exact ⟨_, .base (.int i), kit_ty (by decide +kernel)⟩
  | bl b => exact ⟨_, .base (.bl b), kit_ty (by decide +kernel)⟩
  | str x => exact ⟨_, .base (.str x), kit_ty (by decide +kernel)⟩
  | lst h => exact ⟨_, .base (.lst h), kit_ty (by decide +kernel)⟩
  | dic h => exact ⟨_, .base (.dK h), kit_ty (by decide +kernel)⟩
def BadLet (K : Frag) (H : Hp) (v : V) : Prop := (∃ x : Str, v = .str x ∧ x.length ≤ 1000 ∧ letB x = false) ∨ NoText K H v
def GoodLet (v : V) : Prop := ∃ x : Str, v = .str x ∧ x.length ≤ 1000 ∧ letB x = true
def BadWord (K : Frag) (H : Hp) (v : V) : Prop := (∃ x : Str, v = .str x ∧ wordB x = false) ∨ NoText K H v
def BadTab (K : Frag) (H : Hp) (t : V) (n : Nat) : Prop := NV H t ∨ (∃ a xs rs, t = .ref a ∧ H a = some (.tup xs) ∧ SqT K H a xs ∧ xs.length ≤ 100 ∧ Rows K H xs rs ∧ tabB rs n 6 = false)
def BadAsc (K : Frag) (H : Hp) (v : V) (m : Int) : Prop := NV H v ∨ ∃ a xs, v = .ref a ∧ SqT K H a xs ∧ xs.length ≤ 100 ∧ (∀ x ∈ xs, isNum x) ∧ ascV xs m = false
def ErrS (C : Addr) (H : Hp) (E : XK) : Prop := ∀ H', Same H H' → E (.ref C) none H'
theorem ErrN.to {cN : Addr} {v : V} {H H' : Hp} {E : XK} (h : ErrN cN v H E) (s : Same H H') : ErrN cN v H' E := fun d H2 n s2 e => h d H2 (s.free n) (s.trans s2) e
def spBoxX (K : Frag) (C cB : Addr) : Sp := fun vs H Q E => ∃ p dx v t, vs = [.ref p, v, t] ∧ H p = some (.ins C dx []) ∧ ((BadLet K H v ∧ ErrS cB H E) ∨ (∃ L, v = .str (tx L) ∧ Let L ∧ BadTab K H t L.length ∧ ErrS cB H E))
def spCM2 (K : Frag) (C cO cN : Addr) (lo hi : Int) : Sp := fun vs H Q E => ∃ l n, vs = [.ref C, l, n] ∧ ((BadLet K H l ∧ ErrS cO H E) ∨ (GoodLet l ∧ OV H n ∧ numB n lo hi = false ∧ ErrN cN n H E))
def spCM3 (K : Frag) (C cO cN : Addr) : Sp := fun vs H Q E => ∃ l n m, vs = [.ref C, l, n, m] ∧ ((BadLet K H l ∧ ErrS cO H E) ∨ (GoodLet l ∧ OV H n ∧ ((numB n 0 9 = false ∧ ErrN cN n H E) ∨ (numB n 0 9 = true ∧ OV H m ∧ numB m 1 12 = false ∧ ErrN cN m H E))))
/-- a word that has a letter that is none of the box's -/
def FarWord (L : W) (v : V) : Prop := ∃ u : W, v = .str (tx u) ∧ wordB (tx u) = true ∧ u.length < 64 ∧ ovrB L u = false
def spBCx (K : Frag) (C cW cO : Addr) : Sp := fun vs H Q E => ∃ o L tb v, vs = [.ref o, v] ∧ BoxAt C H o L tb ∧ ((BadWord K H v ∧ E (.ref cW) none H) ∨ (FarWord L v ∧ ErrS cO H E))
def spPlx (K : Frag) (C cW cO cN : Addr) : Sp := fun vs H Q E => ∃ o L tb v st tm, vs = [.ref o, v, st, tm] ∧ BoxAt C H o L tb ∧ ((BadWord K H v ∧ E (.ref cW) none H) ∨ (FarWord L v ∧ OV H st ∧ ((numB st 0 ((tb.length : Int) - 1) = false ∧ ErrN cN st H E) ∨ (numB st 0 ((tb.length : Int) - 1) = true ∧ OV H tm ∧ ((numB tm 0 100000000000 = false ∧ ErrN cN tm H E) ∨ (numB tm 0 100000000000 = true ∧ ErrS cO H E))))))
def spFwx (C cN : Addr) : Sp := fun vs H Q E => ∃ o L tb st, vs = [.ref o, st] ∧ BoxAt C H o L tb ∧ OV H st ∧ numB st 0 ((tb.length : Int) - 1) = false ∧ ErrN cN st H E
def spBMx (K : Frag) (C cO : Addr) : Sp := fun vs H Q E => ∃ o L tb v, vs = [.ref o, v] ∧ BoxAt C H o L tb ∧ BadAsc K H v tb.length ∧ ErrS cO H E
def spBAx (C cB cO : Addr) : Sp := fun vs H Q E => ∃ o L tb v, vs = [.ref o, v] ∧ BoxAt C H o L tb ∧ ((OV H v ∧ E (.ref cB) none H) ∨ (∃ b L' tb', v = .ref b ∧ BoxAt C H b L' tb' ∧ tx L ≠ tx L' ∧ E (.ref cO) none H))
section
variable {P : Program} {w : World} {K : PySem.W.Frag} {mg : Str → Option Value} {base : Heap} {cN cO cW cM cB C cD : Addr}
theorem ok_boxx {f : Addr} {fd : FuncData} (F : Fun K "__init__" "Box.__init__" sBxI f fd) (T : TN mg) (gD : mg "Made" = some (.ref cD)) (N : NoC K cD) (mp : ∃ t, mg "MAX_PLACES" = some (.int 6 t)) (hL : Has P w K mg base CX0 2 "is_letters" ["value"] (spIsLet K))
    (hT : Has P w K mg base CX0 4 "is_table" ["value", "width", "most"] (fun vs H Q E => spTab K vs H Q E ∨ spTabN K vs H Q E)) (R : Rs K mg "InvalidBox" cB) : FnOk P w K mg base (L2.CX P w) 5 f fd ["self", "letters", "table"] (spBoxX K C cB) := by
  obtain ⟨tm, most⟩ := mp
  refine F.okX (N := ["self", "letters", "table"]) ⟨rfl, rfl, rfl, by decide +kernel, rfl, by decide +kernel, by decide +kernel⟩ (fun vs H Q E h => ?_) (fun cdv A outer s H vs Q E hr h => ?_)
  · obtain ⟨p, dx, v, t, rfl, _⟩ := h
    rfl
  · obtain ⟨p, dx, v, t, rfl, hp, h⟩ := h
    have hr2 : Room 2 _ := hr.mono (by decide)
    refine ⟨_, pss_cons (ps_if (pt_not (pt_val (pe_has hL hr2 pass0 (pa_cons (pv 1) pa_nil)))) (pss_one (ps_raise rfl (takes_of rfl rfl rfl rfl) (pmk_own PySem.F.excBase_ValueError R.x R.g R.k (raises_own R.b R.t) rfl))) pss_nil)
      (pss_cons (ps_if (pt_val (pe_callB call_isi (by rfl) T.isi (by decide +kernel) (pa_cons (pv 2) (pa_cons (pe_glob rfl gD (show RelV (.ref cD) (.ref cD) from rfl)) pa_nil)))) (pss_one ps_never)
        (pss_one (ps_if (pt_val (pe_has hT hr pass0 (pa_cons (pv 2) (pa_cons (pe_callB call_len_str (by rfl) T.len PySem.boot_len (pa_cons (pv 1) pa_nil)) (pa_cons (pe_glob rfl most (show RelV (.int 6) (.int 6 tm) from ⟨tm, rfl⟩)) pa_nil)))))
          (pss_one ps_never) (pss_one (ps_raise rfl (takes_of rfl rfl rfl rfl) (pmk_own PySem.F.excBase_ValueError R.x R.g R.k (raises_own R.b R.t) rfl))))))
      pss_never), ?_⟩
    rcases h with ⟨⟨x, rfl, hx, e⟩ | hn, q⟩ | ⟨L, rfl, hL, bt, q⟩
    · refine ⟨_, rfl, _, rfl, .inl ⟨x, rfl, hx, fun H1 s1 => ⟨_, rfl, ?_⟩⟩⟩
      rw [e]
      exact q H1 s1
    · exact ⟨_, rfl, _, rfl, .inr ⟨hn, _, rfl, q H (Same.refl H)⟩⟩
    · refine ⟨_, rfl, _, rfl, .inl ⟨tx L, rfl, by rw [tx_len]; have := hL.few; omega, fun H1 s1 => ⟨_, rfl, ?_⟩⟩⟩
      rw [letB_let hL]
      rcases bt with nv | ⟨a, xs, rs, rfl, at_, hT, hl, hR, e⟩
      · have nv1 := nv.to fun a o _ e => s1 a o e
        obtain ⟨tn, ht, ty⟩ := nv1.ov.ty (K := K)
        refine ⟨_, rfl, _, _, _, _, false, rfl, .own cD, ty, N _ ht, false, rfl, ?_⟩
        exact ⟨_, rfl, _, rfl, _, rfl, by rw [tx_len, sizeLine_eq]; have := hL.few; omega, .inr ⟨_, _, _, rfl, nv1.noTup, false, rfl, q H1 s1⟩⟩
      · refine ⟨_, rfl, _, _, _, _, false, rfl, .own cD, .base (.tup (s1 _ _ at_)), N _ (by decide), false, rfl, ?_⟩
        refine ⟨_, rfl, _, rfl, _, rfl, by rw [tx_len, sizeLine_eq]; have := hL.few; omega, .inl ⟨_, _, _, rfl, .inl ⟨a, xs, rs, rfl, seqT s1 hT, hl, hR.ext s1, fun H2 s2 => ⟨_, rfl, ?_⟩⟩⟩⟩
        rw [tx_len, e]
        exact q H2 (s1.trans s2)
end
end WK
set_option Elab.async false
set_option linter.all false
set_option maxRecDepth 100000
set_option maxHeartbeats 8000000
namespace WK
open PySem L2 PyProof.Rows LCX K1 FV LamX NdefX RM
open TX (sg sigs)
open PySem.W (Frag kitOne)
section
variable {P : Program} {w : World} {K : PySem.W.Frag} {mg : Str → Option Value} {base : Heap} {cN cO cW cM cB C cD cI : Addr}
abbrev HNL (P : Program) (w : World) (K : Frag) (mg : Str → Option Value) (base : Heap) (cO : Addr) : Prop := Has P w K mg base (L2.CX P w) 3 "need_letters" ["letters"] (spNLx K cO)
abbrev HNN (P : Program) (w : World) (K : Frag) (mg : Str → Option Value) (base : Heap) (cN : Addr) : Prop := Has P w K mg base (L2.CX P w) 3 "need_number" ["value", "least", "most"] (spNN cN)
abbrev HNW (P : Program) (w : World) (K : Frag) (mg : Str → Option Value) (base : Heap) (cW : Addr) : Prop := Has P w K mg base (L2.CX P w) 2 "need_word" ["word"] (spNWx K cW)
abbrev HNO (P : Program) (w : World) (K : Frag) (mg : Str → Option Value) (base : Heap) (cO : Addr) : Prop := Has P w K mg base (L2.CX P w) 2 "need_over" ["letters", "word"] (spNOx cO)
theorem ok_windowX {f : Addr} {fd : FuncData} (F : Fun K "window" "Box.window" sWindowM f fd) (m : ∃ t, mg "_MAX_SIZE" = some (.int 4 t)) (hL : HNL P w K mg base cO) (hN : HNN P w K mg base cN) : FnOk P w K mg base (L2.CX P w) 4 f fd ["cls", "letters", "size"] (spCM2 K C cO cN 0 4) := by
  obtain ⟨tm, most⟩ := m
  refine F.okX (N := ["cls", "letters", "size"]) ⟨rfl, rfl, rfl, by decide +kernel, rfl, by decide +kernel, by decide +kernel⟩ (fun vs H Q E h => ?_) (fun cdv A outer s H vs Q E hr h => ?_)
  · obtain ⟨l, n, rfl, _⟩ := h
    rfl
  · obtain ⟨l, n, rfl, h⟩ := h
    refine ⟨_, pss_cons (ps_expr (pe_has (E := E) hL hr (passes_call (takes_of rfl rfl rfl rfl) (fun _ _ _ _ h => h)) (pa_cons (pv 1) pa_nil)))
      (pss_cons (ps_expr (pe_has (E := E) hN hr (passes_call (takes_of rfl rfl rfl rfl) (fun _ _ _ _ h => h)) (pa_cons (pv 2) (pa_cons pe_int (pa_cons (pe_glob rfl most (show RelV (.int 4) (.int 4 tm) from ⟨tm, rfl⟩)) pa_nil))))) pss_never), ?_⟩
    rcases h with ⟨⟨x, rfl, hx, e⟩ | hn, q⟩ | ⟨⟨x, rfl, hx, e⟩, ov, en, q⟩
    · exact ⟨_, rfl, _, rfl, .inl ⟨x, rfl, hx, .inr ⟨e, q⟩⟩⟩
    · exact ⟨_, rfl, _, rfl, .inr ⟨hn, q H (Same.refl H)⟩⟩
    · exact ⟨_, rfl, _, rfl, .inl ⟨x, rfl, hx, .inl ⟨e, fun H1 s1 => ⟨_, rfl, n, _, _, rfl, ov.same s1, .inr ⟨en, q.to s1⟩⟩⟩⟩⟩
theorem ok_headsX {f : Addr} {fd : FuncData} (F : Fun K "heads" "Box.heads" sHeadsM f fd) (m : ∃ t, mg "_MAX_SIZE" = some (.int 4 t)) (hL : HNL P w K mg base cO) (hN : HNN P w K mg base cN) : FnOk P w K mg base (L2.CX P w) 4 f fd ["cls", "letters", "size"] (spCM2 K C cO cN 0 4) := by
  obtain ⟨tm, most⟩ := m
  refine F.okX (N := ["cls", "letters", "size"]) ⟨rfl, rfl, rfl, by decide +kernel, rfl, by decide +kernel, by decide +kernel⟩ (fun vs H Q E h => ?_) (fun cdv A outer s H vs Q E hr h => ?_)
  · obtain ⟨l, n, rfl, _⟩ := h
    rfl
  · obtain ⟨l, n, rfl, h⟩ := h
    refine ⟨_, pss_cons (ps_expr (pe_has (E := E) hL hr (passes_call (takes_of rfl rfl rfl rfl) (fun _ _ _ _ h => h)) (pa_cons (pv 1) pa_nil)))
      (pss_cons (ps_expr (pe_has (E := E) hN hr (passes_call (takes_of rfl rfl rfl rfl) (fun _ _ _ _ h => h)) (pa_cons (pv 2) (pa_cons pe_int (pa_cons (pe_glob rfl most (show RelV (.int 4) (.int 4 tm) from ⟨tm, rfl⟩)) pa_nil))))) pss_never), ?_⟩
    rcases h with ⟨⟨x, rfl, hx, e⟩ | hn, q⟩ | ⟨⟨x, rfl, hx, e⟩, ov, en, q⟩
    · exact ⟨_, rfl, _, rfl, .inl ⟨x, rfl, hx, .inr ⟨e, q⟩⟩⟩
    · exact ⟨_, rfl, _, rfl, .inr ⟨hn, q H (Same.refl H)⟩⟩
    · exact ⟨_, rfl, _, rfl, .inl ⟨x, rfl, hx, .inl ⟨e, fun H1 s1 => ⟨_, rfl, n, _, _, rfl, ov.same s1, .inr ⟨en, q.to s1⟩⟩⟩⟩⟩
theorem ok_piecesX {f : Addr} {fd : FuncData} (F : Fun K "pieces" "Box.pieces" sPiecesM f fd) (m : ∃ t, mg "_MAX_PIECES" = some (.int 3 t)) (hL : HNL P w K mg base cO) (hN : HNN P w K mg base cN) : FnOk P w K mg base (L2.CX P w) 4 f fd ["cls", "letters", "most"] (spCM2 K C cO cN 0 3) := by
  obtain ⟨tm, most⟩ := m
  refine F.okX (N := ["cls", "letters", "most"]) ⟨rfl, rfl, rfl, by decide +kernel, rfl, by decide +kernel, by decide +kernel⟩ (fun vs H Q E h => ?_) (fun cdv A outer s H vs Q E hr h => ?_)
  · obtain ⟨l, n, rfl, _⟩ := h
    rfl
  · obtain ⟨l, n, rfl, h⟩ := h
    refine ⟨_, pss_cons (ps_expr (pe_has (E := E) hL hr (passes_call (takes_of rfl rfl rfl rfl) (fun _ _ _ _ h => h)) (pa_cons (pv 1) pa_nil)))
      (pss_cons (ps_expr (pe_has (E := E) hN hr (passes_call (takes_of rfl rfl rfl rfl) (fun _ _ _ _ h => h)) (pa_cons (pv 2) (pa_cons pe_int (pa_cons (pe_glob rfl most (show RelV (.int 3) (.int 3 tm) from ⟨tm, rfl⟩)) pa_nil))))) pss_never), ?_⟩
    rcases h with ⟨⟨x, rfl, hx, e⟩ | hn, q⟩ | ⟨⟨x, rfl, hx, e⟩, ov, en, q⟩
    · exact ⟨_, rfl, _, rfl, .inl ⟨x, rfl, hx, .inr ⟨e, q⟩⟩⟩
    · exact ⟨_, rfl, _, rfl, .inr ⟨hn, q H (Same.refl H)⟩⟩
    · exact ⟨_, rfl, _, rfl, .inl ⟨x, rfl, hx, .inl ⟨e, fun H1 s1 => ⟨_, rfl, n, _, _, rfl, ov.same s1, .inr ⟨en, q.to s1⟩⟩⟩⟩⟩
theorem ok_capsX {f : Addr} {fd : FuncData} (F : Fun K "caps" "Box.caps" sCapsM f fd) (m : ∃ t, mg "_MAX_CAP" = some (.int 9 t)) (hL : HNL P w K mg base cO) (hN : HNN P w K mg base cN) : FnOk P w K mg base (L2.CX P w) 4 f fd ["cls", "letters", "most"] (spCM2 K C cO cN 0 9) := by
  obtain ⟨tm, most⟩ := m
  refine F.okX (N := ["cls", "letters", "most"]) ⟨rfl, rfl, rfl, by decide +kernel, rfl, by decide +kernel, by decide +kernel⟩ (fun vs H Q E h => ?_) (fun cdv A outer s H vs Q E hr h => ?_)
  · obtain ⟨l, n, rfl, _⟩ := h
    rfl
  · obtain ⟨l, n, rfl, h⟩ := h
    refine ⟨_, pss_cons (ps_expr (pe_has (E := E) hL hr (passes_call (takes_of rfl rfl rfl rfl) (fun _ _ _ _ h => h)) (pa_cons (pv 1) pa_nil)))
      (pss_cons (ps_expr (pe_has (E := E) hN hr (passes_call (takes_of rfl rfl rfl rfl) (fun _ _ _ _ h => h)) (pa_cons (pv 2) (pa_cons pe_int (pa_cons (pe_glob rfl most (show RelV (.int 9) (.int 9 tm) from ⟨tm, rfl⟩)) pa_nil))))) pss_never), ?_⟩
    rcases h with ⟨⟨x, rfl, hx, e⟩ | hn, q⟩ | ⟨⟨x, rfl, hx, e⟩, ov, en, q⟩
    · exact ⟨_, rfl, _, rfl, .inl ⟨x, rfl, hx, .inr ⟨e, q⟩⟩⟩
    · exact ⟨_, rfl, _, rfl, .inr ⟨hn, q H (Same.refl H)⟩⟩
    · exact ⟨_, rfl, _, rfl, .inl ⟨x, rfl, hx, .inl ⟨e, fun H1 s1 => ⟨_, rfl, n, _, _, rfl, ov.same s1, .inr ⟨en, q.to s1⟩⟩⟩⟩⟩
theorem ok_restsX {f : Addr} {fd : FuncData} (F : Fun K "rests" "Box.rests" sRestsM f fd) (m : ∃ t, mg "_MAX_MODULUS" = some (.int 12 t)) (hL : HNL P w K mg base cO) (hN : HNN P w K mg base cN) : FnOk P w K mg base (L2.CX P w) 4 f fd ["cls", "letters", "modulus"] (spCM2 K C cO cN 1 12) := by
  obtain ⟨tm, most⟩ := m
  refine F.okX (N := ["cls", "letters", "modulus"]) ⟨rfl, rfl, rfl, by decide +kernel, rfl, by decide +kernel, by decide +kernel⟩ (fun vs H Q E h => ?_) (fun cdv A outer s H vs Q E hr h => ?_)
  · obtain ⟨l, n, rfl, _⟩ := h
    rfl
  · obtain ⟨l, n, rfl, h⟩ := h
    refine ⟨_, pss_cons (ps_expr (pe_has (E := E) hL hr (passes_call (takes_of rfl rfl rfl rfl) (fun _ _ _ _ h => h)) (pa_cons (pv 1) pa_nil)))
      (pss_cons (ps_expr (pe_has (E := E) hN hr (passes_call (takes_of rfl rfl rfl rfl) (fun _ _ _ _ h => h)) (pa_cons (pv 2) (pa_cons pe_int (pa_cons (pe_glob rfl most (show RelV (.int 12) (.int 12 tm) from ⟨tm, rfl⟩)) pa_nil))))) pss_never), ?_⟩
    rcases h with ⟨⟨x, rfl, hx, e⟩ | hn, q⟩ | ⟨⟨x, rfl, hx, e⟩, ov, en, q⟩
    · exact ⟨_, rfl, _, rfl, .inl ⟨x, rfl, hx, .inr ⟨e, q⟩⟩⟩
    · exact ⟨_, rfl, _, rfl, .inr ⟨hn, q H (Same.refl H)⟩⟩
    · exact ⟨_, rfl, _, rfl, .inl ⟨x, rfl, hx, .inl ⟨e, fun H1 s1 => ⟨_, rfl, n, _, _, rfl, ov.same s1, .inr ⟨en, q.to s1⟩⟩⟩⟩⟩
theorem ok_clerkX {f : Addr} {fd : FuncData} (F : Fun K "clerk" "Box.clerk" sClerkM f fd) (m1 : ∃ t, mg "_MAX_CAP" = some (.int 9 t)) (m2 : ∃ t, mg "_MAX_MODULUS" = some (.int 12 t)) (hL : HNL P w K mg base cO) (hN : HNN P w K mg base cN) : FnOk P w K mg base (L2.CX P w) 4 f fd ["cls", "letters", "cap", "modulus"] (spCM3 K C cO cN) := by
  obtain ⟨t1, most1⟩ := m1
  obtain ⟨t2, most2⟩ := m2
  refine F.okX (N := ["cls", "letters", "cap", "modulus"]) ⟨rfl, rfl, rfl, by decide +kernel, rfl, by decide +kernel, by decide +kernel⟩ (fun vs H Q E h => ?_) (fun cdv A outer s H vs Q E hr h => ?_)
  · obtain ⟨l, n, m, rfl, _⟩ := h
    rfl
  · obtain ⟨l, n, m, rfl, h⟩ := h
    refine ⟨_, pss_cons (ps_expr (pe_has (E := E) hL hr (passes_call (takes_of rfl rfl rfl rfl) (fun _ _ _ _ h => h)) (pa_cons (pv 1) pa_nil)))
      (pss_cons (ps_expr (pe_has (E := E) hN hr (passes_call (takes_of rfl rfl rfl rfl) (fun _ _ _ _ h => h)) (pa_cons (pv 2) (pa_cons pe_int (pa_cons (pe_glob rfl most1 (show RelV (.int 9) (.int 9 t1) from ⟨t1, rfl⟩)) pa_nil)))))
      (pss_cons (ps_expr (pe_has (E := E) hN hr (passes_call (takes_of rfl rfl rfl rfl) (fun _ _ _ _ h => h)) (pa_cons (pv 3) (pa_cons pe_int (pa_cons (pe_glob rfl most2 (show RelV (.int 12) (.int 12 t2) from ⟨t2, rfl⟩)) pa_nil))))) pss_never)), ?_⟩
    rcases h with ⟨⟨x, rfl, hx, e⟩ | hn, q⟩ | ⟨⟨x, rfl, hx, e⟩, ov, h⟩
    · exact ⟨_, rfl, _, rfl, .inl ⟨x, rfl, hx, .inr ⟨e, q⟩⟩⟩
    · exact ⟨_, rfl, _, rfl, .inr ⟨hn, q H (Same.refl H)⟩⟩
    · refine ⟨_, rfl, _, rfl, .inl ⟨x, rfl, hx, .inl ⟨e, fun H1 s1 => ⟨_, rfl, n, _, _, rfl, ov.same s1, ?_⟩⟩⟩⟩
      rcases h with ⟨en, q⟩ | ⟨en, om, em, q⟩
      · exact .inr ⟨en, q.to s1⟩
      · exact .inl ⟨en, _, rfl, m, _, _, rfl, om.same s1, .inr ⟨em, q.to s1⟩⟩
theorem ok_bcx {f : Addr} {fd : FuncData} (F : Fun K "__call__" "Box.__call__" sBCall f fd) (M : TBx K mg C cD) (hW : HNW P w K mg base cW) (hO : HNO P w K mg base cO) : FnOk P w K mg base (L2.CX P w) 3 f fd ["self", "word"] (spBCx K C cW cO) := by
  refine F.okX (N := ["self", "word"]) ⟨rfl, rfl, rfl, by decide +kernel, rfl, by decide +kernel, by decide +kernel⟩ (fun vs H Q E h => ?_) (fun cdv A outer s H vs Q E hr h => ?_)
  · obtain ⟨o, L, tb, v, rfl, _⟩ := h
    rfl
  · obtain ⟨o, L, tb, v, rfl, ⟨dx, r, h1, _⟩, h⟩ := h
    refine ⟨_, pss_cons (ps_expr (pe_has (E := E) hW hr (passes_call (takes_of rfl rfl rfl rfl) (fun _ _ _ _ h => h)) (pa_cons (pv 1) pa_nil)))
      (pss_cons (ps_expr (pe_has (E := E) hO hr (passes_call (takes_of rfl rfl rfl rfl) (fun _ _ _ _ h => h)) (pa_cons (pe_fld (pv 0) rfl) (pa_cons (pv 1) pa_nil)))) pss_never), ?_⟩
    rcases h with ⟨⟨x, rfl, e⟩ | hn, q⟩ | ⟨far, q⟩
    · exact ⟨_, rfl, _, rfl, .inl ⟨x, rfl, .inr ⟨e, q⟩⟩⟩
    · exact ⟨_, rfl, _, rfl, .inr ⟨hn, q⟩⟩
    · obtain ⟨u, rfl, e, e2, e3⟩ := far
      exact ⟨_, rfl, _, rfl, .inl ⟨_, rfl, .inl ⟨e, _, rfl, o, C, dx, _, _, rfl, h1, M.cl, M.nL, bfl_L, _, rfl, L, u, rfl, e2, .inr ⟨e3, q⟩⟩⟩⟩
theorem ok_actx {f : Addr} {fd : FuncData} (F : Fun K "action" "Box.action" sBAct f fd) (M : TBx K mg C cD) (hW : HNW P w K mg base cW) (hO : HNO P w K mg base cO) : FnOk P w K mg base (L2.CX P w) 3 f fd ["self", "word"] (spBCx K C cW cO) := by
  refine F.okX (N := ["self", "word", "start"]) ⟨rfl, rfl, rfl, by decide +kernel, rfl, by decide +kernel, by decide +kernel⟩ (fun vs H Q E h => ?_) (fun cdv A outer s H vs Q E hr h => ?_)
  · obtain ⟨o, L, tb, v, rfl, _⟩ := h
    rfl
  · obtain ⟨o, L, tb, v, rfl, ⟨dx, r, h1, _⟩, h⟩ := h
    refine ⟨_, pss_cons (ps_expr (pe_has (E := E) hW hr (passes_call (takes_of rfl rfl rfl rfl) (fun _ _ _ _ h => h)) (pa_cons (pv 1) pa_nil)))
      (pss_cons (ps_expr (pe_has (E := E) hO hr (passes_call (takes_of rfl rfl rfl rfl) (fun _ _ _ _ h => h)) (pa_cons (pe_fld (pv 0) rfl) (pa_cons (pv 1) pa_nil)))) pss_never), ?_⟩
    rcases h with ⟨⟨x, rfl, e⟩ | hn, q⟩ | ⟨far, q⟩
    · exact ⟨_, rfl, _, rfl, .inl ⟨x, rfl, .inr ⟨e, q⟩⟩⟩
    · exact ⟨_, rfl, _, rfl, .inr ⟨hn, q⟩⟩
    · obtain ⟨u, rfl, e, e2, e3⟩ := far
      exact ⟨_, rfl, _, rfl, .inl ⟨_, rfl, .inl ⟨e, _, rfl, o, C, dx, _, _, rfl, h1, M.cl, M.nL, bfl_L, _, rfl, L, u, rfl, e2, .inr ⟨e3, q⟩⟩⟩⟩
theorem ok_plx {f : Addr} {fd : FuncData} (F : FunD K "place" "Box.place" (defArgs sBPlace) (defBody sBPlace) (defScope sBPlace) [] [("times", .int 1)] f fd) (T : TN mg) (M : TBx K mg C cD) (most : ∃ t, mg "MAX_TIMES" = some (.int 100000000000 t)) (hW : HNW P w K mg base cW) (hO : HNO P w K mg base cO) (hN : HNN P w K mg base cN) :
    FnOk P w K mg base (L2.CX P w) 4 f fd ["self", "word", "start", "times"] (spPlx K C cW cO cN) := by
  obtain ⟨tm0, most⟩ := most
  obtain ⟨oc, od, dV, kV, doc, pm, an, cdv, ct, osl, rfl, lk, hcd, _⟩ := F.ex
  refine fn_of lk hcd (N := NPl) ⟨rfl, rfl, rfl, by decide +kernel, rfl, by decide +kernel, by decide +kernel⟩ (fun vs H Q E h => ?_) (fun A outer s H vs Q E hr h => ?_)
  · obtain ⟨o, L, tb, v, st, tm, rfl, _⟩ := h
    rfl
  · obtain ⟨o, L, tb, v, st, tm, rfl, ⟨dx, r, h1, ts, t1, t2⟩, h⟩ := h
    have hr2 : Room 2 _ := hr.mono (by decide)
    refine ⟨_, (pss_cons (ps_expr (pe_has (E := E) hW hr2 (passes_call (takes_of rfl rfl rfl rfl) (fun _ _ _ _ h => h)) (pa_cons (pv 1) pa_nil)))
      (pss_cons (ps_expr (pe_has (E := E) hN hr (passes_call (takes_of rfl rfl rfl rfl) (fun _ _ _ _ h => h)) (pa_cons (pv 2) (pa_cons pe_int (pa_cons (pe_op op_sub (pe_callB call_len_seq (by rfl) T.len PySem.boot_len (pa_cons (pe_fld (pv 0) rfl) pa_nil)) pe_int) pa_nil)))))
      (pss_cons (ps_expr (pe_has (E := E) hN hr (passes_call (takes_of rfl rfl rfl rfl) (fun _ _ _ _ h => h)) (pa_cons (pv 3) (pa_cons pe_int (pa_cons (pe_glob rfl most (show RelV (.int 100000000000) (.int 100000000000 tm0) from ⟨tm0, rfl⟩)) pa_nil)))))
      (pss_cons (ps_expr (pe_has (E := E) hO hr2 (passes_call (takes_of rfl rfl rfl rfl) (fun _ _ _ _ h => h)) (pa_cons (pe_fld (pv 0) rfl) (pa_cons (pv 1) pa_nil)))) pss_never)))), ?_⟩
    have tl : (ts.map V.ref).length = tb.length := by rw [List.length_map, t2.len]
    rcases h with ⟨⟨x, rfl, e⟩ | hn, q⟩ | ⟨far, os, h⟩
    · exact ⟨_, rfl, _, rfl, .inl ⟨x, rfl, .inr ⟨e, q⟩⟩⟩
    · exact ⟨_, rfl, _, rfl, .inr ⟨hn, q⟩⟩
    · obtain ⟨u, rfl, e, e2, e3⟩ := far
      refine ⟨_, rfl, _, rfl, .inl ⟨_, rfl, .inl ⟨e, _, rfl, _, rfl, o, C, dx, _, _, rfl, h1, M.cl, M.nT, bfl_T, r, _, rfl, .inr (SqT.of t1), _, _, rfl, rfl, st, _, _, rfl, os, ?_⟩⟩⟩
      rw [tl]
      rcases h with ⟨en, q⟩ | ⟨en, om, h⟩
      · exact .inr ⟨en, q⟩
      · refine .inl ⟨en, _, rfl, tm, _, _, rfl, om, ?_⟩
        rcases h with ⟨em, q⟩ | ⟨em, q⟩
        · exact .inr ⟨em, q⟩
        · exact .inl ⟨em, _, rfl, o, C, dx, _, _, rfl, h1, M.cl, M.nL, bfl_L, _, rfl, L, u, rfl, e2, .inr ⟨e3, q⟩⟩
theorem ok_fwx {f : Addr} {fd : FuncData} (F : Fun K "first_word" "Box.first_word" sBFirst f fd) (T : TN mg) (M : TBx K mg C cD) (hN : HNN P w K mg base cN) : FnOk P w K mg base (L2.CX P w) 4 f fd ["self", "place"] (spFwx C cN) := by
  refine F.okX (N := ["self", "place", "found"]) ⟨rfl, rfl, rfl, by decide +kernel, rfl, by decide +kernel, by decide +kernel⟩ (fun vs H Q E h => ?_) (fun cdv A outer s H vs Q E hr h => ?_)
  · obtain ⟨o, L, tb, st, rfl, _⟩ := h
    rfl
  · obtain ⟨o, L, tb, st, rfl, ⟨dx, r, h1, ts, t1, t2⟩, os, en, q⟩ := h
    refine ⟨_, pss_cons (ps_expr (pe_has (E := E) hN hr (passes_call (takes_of rfl rfl rfl rfl) (fun _ _ _ _ h => h)) (pa_cons (pv 1) (pa_cons pe_int (pa_cons (pe_op op_sub (pe_callB call_len_seq (by rfl) T.len PySem.boot_len (pa_cons (pe_fld (pv 0) rfl) pa_nil)) pe_int) pa_nil))))) pss_never, ?_⟩
    have tl : (ts.map V.ref).length = tb.length := by rw [List.length_map, t2.len]
    refine ⟨_, rfl, _, rfl, o, C, dx, _, _, rfl, h1, M.cl, M.nT, bfl_T, r, _, rfl, .inr (SqT.of t1), _, _, rfl, rfl, st, _, _, rfl, os, ?_⟩
    rw [tl]
    exact .inr ⟨en, q⟩
theorem ok_bmx {f : Addr} {fd : FuncData} (F : Fun K "machine" "Box.machine" sBxMach f fd) (T : TN mg) (M : TBx K mg C cD) (hA : Has P w K mg base CX0 3 "is_ascending" ["value", "many"] (fun vs H Q E => spIsAsc K vs H Q E ∨ spAscN K vs H Q E)) (R : Rs K mg "InvalidOperation" cO) : FnOk P w K mg base (L2.CX P w) 4 f fd ["self", "places"] (spBMx K C cO) := by
  refine F.okX (N := ["self", "places", "found"]) ⟨rfl, rfl, rfl, by decide +kernel, rfl, by decide +kernel, by decide +kernel⟩ (fun vs H Q E h => ?_) (fun cdv A outer s H vs Q E hr h => ?_)
  · obtain ⟨o, L, tb, v, rfl, _⟩ := h
    rfl
  · obtain ⟨o, L, tb, v, rfl, ⟨dx, r, h1, ts, t1, t2⟩, h, q⟩ := h
    refine ⟨_, pss_cons (ps_if (pt_not (pt_val (pe_has hA hr pass0 (pa_cons (pv 1) (pa_cons (pe_callB call_len_seq (by rfl) T.len PySem.boot_len (pa_cons (pe_fld (pv 0) rfl) pa_nil)) pa_nil))))) (pss_one (ps_raise rfl (takes_of rfl rfl rfl rfl) (pmk_own PySem.F.excBase_ValueError R.x R.g R.k (raises_own R.b R.t) rfl))) pss_nil) pss_never, ?_⟩
    have tl : (ts.map V.ref).length = tb.length := by rw [List.length_map, t2.len]
    refine ⟨_, rfl, _, rfl, o, C, dx, _, _, rfl, h1, M.cl, M.nT, bfl_T, r, _, rfl, .inr (SqT.of t1), ?_⟩
    rw [tl]
    rcases h with nv | ⟨a, xs, rfl, hT, hl, hx, e⟩
    · exact .inr ⟨_, _, rfl, nv.noTup, _, rfl, q H (Same.refl H)⟩
    · refine .inl ⟨_, _, rfl, .inl ⟨a, xs, rfl, hT, hl, hx, fun H1 s1 => ⟨_, rfl, ?_⟩⟩⟩
      rw [e]
      exact q H1 s1
theorem ok_bax {f pL gL : Addr} {fd dL : FuncData} (F : Fun K "__and__" "Box.__and__" sBxAnd f fd) (M : TBx K mg C cD) (RB : PropOf K C "letters" pL gL) (GB : FnOk P w K mg base CX0 1 gL dL ["self"] (getSp C "_letters")) (bB : Binds K dL ["self"] []) (hB : Has P w K mg base (L2.CX P w) 1 "need_box" ["box"] (spNBx C cB)) (hS : Has P w K mg base (L2.CX P w) 1 "need_same_letters" ["one", "other"] (spNSx cO)) :
    FnOk P w K mg base (L2.CX P w) 3 f fd ["self", "other"] (spBAx C cB cO) := by
  refine F.okX (N := ["self", "other"]) ⟨rfl, rfl, rfl, by decide +kernel, rfl, by decide +kernel, by decide +kernel⟩ (fun vs H Q E h => ?_) (fun cdv A outer s H vs Q E hr h => ?_)
  · obtain ⟨o, L, tb, v, rfl, _⟩ := h
    rfl
  · obtain ⟨o, L, tb, v, rfl, ⟨dx, r, h1, _⟩, h⟩ := h
    have hr1 : Room 1 _ := hr.mono (by decide)
    refine ⟨_, pss_cons (ps_expr (pe_has (E := E) hB hr1 (passes_call (takes_of rfl rfl rfl rfl) (fun _ _ _ _ h => h)) (pa_cons (pv 1) pa_nil)))
      (pss_cons (ps_expr (pe_has (E := E) hS hr1 (passes_call (takes_of rfl rfl rfl rfl) (fun _ _ _ _ h => h)) (pa_cons (pe_fld (pv 0) rfl) (pa_cons (pe_prop (E := E0) (pv 1) M.cl RB GB hr bB .nil pass0 rfl) pa_nil)))) pss_never), ?_⟩
    rcases h with ⟨ov, q⟩ | ⟨b, L', tb', rfl, ⟨dx', r', g1, g2⟩, e, q⟩
    · exact ⟨_, rfl, _, rfl, .inr ⟨ov, q⟩⟩
    · exact ⟨_, rfl, _, rfl, .inl ⟨⟨b, L', tb', rfl, dx', r', g1, g2⟩, _, rfl, o, C, dx, _, _, rfl, h1, M.cl, M.nL, bfl_L, _, rfl, b, dx', _, rfl, g1, b, dx', _, _, rfl, g1, bfl_L, _, _, rfl, .inr ⟨e, q⟩⟩⟩
end
end WK
set_option Elab.async false
set_option linter.all false
set_option maxRecDepth 100000
set_option maxHeartbeats 8000000
namespace WK
open PySem L2 PyProof.Rows LCX K1 FV LamX NdefX RM
open TX (sg sigs)
open PySem.W (Frag kitOne)
/-- machines xs and a box b of which one is none -/
def NeedErr (C cM cB : Addr) (xs : List V) (b : V) (H : Hp) (E : XK) : Prop := MsOr C H xs ∧ (((∃ x ∈ xs, OV H x) ∧ ErrS cM H E) ∨ (AllMs C H xs ∧ OV H b ∧ ErrS cB H E))
/-- machines with one set of letters, a box with another one -/
def Far (C CB : Addr) (xs : List V) (b : V) (H : Hp) : Prop := ∃ o L L' tb, b = .ref o ∧ xs ≠ [] ∧ MsL C H xs L ∧ BoxAt CB H o L' tb ∧ tx L ≠ tx L'
def Good (C CB : Addr) (xs : List V) (b : V) (n : Nat) (H : Hp) : Prop := ∃ o L tb, b = .ref o ∧ AllMs C H xs ∧ BoxAt CB H o L tb ∧ tb.length = n ∧ n ≤ 1000
theorem AllMs.same {C : Addr} {H H' : Hp} {xs : List V} (h : AllMs C H xs) (s : Same H H') : AllMs C H' xs := fun x hx => let ⟨a, e, dx, fs, z⟩ := h x hx; ⟨a, e, dx, fs, s _ _ z⟩
theorem MsOr.same {C : Addr} {H H' : Hp} {xs : List V} (h : MsOr C H xs) (s : Same H H') : MsOr C H' xs := fun x hx => (h x hx).imp (fun z => z.same s) fun ⟨a, e, dx, fs, z⟩ => ⟨a, e, dx, fs, s _ _ z⟩
theorem MsL.all {C : Addr} {H : Hp} {xs : List V} {L : W} (h : MsL C H xs L) : AllMs C H xs := fun x hx => let ⟨a, tb, es, e, m⟩ := h x hx; let ⟨dx, _, _, _, z, _⟩ := m.ex; ⟨a, e, dx, _, z⟩
theorem MsL.same {C : Addr} {H H' : Hp} {xs : List V} {L : W} (h : MsL C H xs L) (s : Same H H') : MsL C H' xs L := fun x hx => let ⟨a, tb, es, e, m⟩ := h x hx; ⟨a, tb, es, e, m.same s⟩
theorem AllMs.or {C : Addr} {H : Hp} {xs : List V} (h : AllMs C H xs) : MsOr C H xs := fun x hx => .inr (h x hx)
theorem ErrS.to {C : Addr} {H H' : Hp} {E : XK} (h : ErrS C H E) (s : Same H H') : ErrS C H' E := fun G g => h G (s.trans g)
theorem ErrS.now {C : Addr} {H : Hp} {E : XK} (h : ErrS C H E) : E (.ref C) none H := h H (Same.refl H)
theorem BadMs.now {C : Addr} {H H' : Hp} {v : V} (h : BadMs C H v) (s : Same H H') : True := trivial
abbrev sPlaces : Stmt := top 71
abbrev sWordTo : Stmt := top 72
abbrev sTells : Stmt := top 73
abbrev sAlikeP : Stmt := top 74
abbrev sIsAlikeP : Stmt := top 75
abbrev sIsSeen : Stmt := top 76
abbrev sApartP : Stmt := top 77
abbrev sIsApartP : Stmt := top 78
abbrev sGuesses : Stmt := top 79
abbrev sBGroups : Stmt := top 80
def spPl1 (C CB cM cB cO : Addr) : Sp := fun vs H Q E => ∃ m b, vs = [m, b] ∧ (NeedErr C cM cB [m] b H E ∨ (Far C CB [m] b H ∧ ErrS cO H E))
def spWt (C CB cM cB cO cN : Addr) : Sp := fun vs H Q E => ∃ m b p, vs = [m, b, p] ∧ (NeedErr C cM cB [m] b H E ∨ (∃ n : Nat, Good C CB [m] b n H ∧ OV H p ∧ ((numB p 0 ((n : Int) - 1) = false ∧ ErrN cN p H E) ∨ (numB p 0 ((n : Int) - 1) = true ∧ Far C CB [m] b H ∧ ErrS cO H E))))
def spAp (C CB cM cB cO : Addr) : Sp := fun vs H Q E => ∃ m m' b, vs = [m, m', b] ∧ (NeedErr C cM cB [m, m'] b H E ∨ (Far C CB [m, m'] b H ∧ ErrS cO H E))
def spApV (C CB cM cB cO : Addr) : Sp := fun vs H Q E => ∃ m m' b v, vs = [m, m', b, v] ∧ (NeedErr C cM cB [m, m'] b H E ∨ (Far C CB [m, m'] b H ∧ ErrS cO H E))
/-- a wrong word, whatever is made meanwhile -/
def BadW (H : Hp) (v : V) : Prop := (∃ x : Str, v = .str x ∧ wordB x = false) ∨ (OV H v ∧ ∀ x, v ≠ .str x)
theorem BadW.same {H H' : Hp} {v : V} (h : BadW H v) (s : Same H H') : BadW H' v := h.imp_right fun z => ⟨z.1.same s, z.2⟩
theorem BadW.bad {K : Frag} {H : Hp} {v : V} (h : BadW H v) : BadWord K H v := h.imp_right fun z => (z.1.text (K := K)).resolve_left fun ⟨x, e⟩ => z.2 x e
def spIsSn (C CB cM cB cW : Addr) : Sp := fun vs H Q E => ∃ m b v, vs = [m, b, v] ∧ (NeedErr C cM cB [m] b H E ∨ (∃ n, Good C CB [m] b n H ∧ BadW H v ∧ ErrS cW H E))
def spGs (K : Frag) (C CB cM cB cW : Addr) : Sp := fun vs H Q E => ∃ b ms v, vs = [b, ms, v] ∧ ((OV H b ∧ ErrS cB H E) ∨ ((∃ o L tb, b = .ref o ∧ BoxAt CB H o L tb) ∧ ((BadMs C H ms ∧ ErrS cM H E) ∨ (∃ t xs, ms = .ref t ∧ SqT K H t xs ∧ 1 ≤ xs.length ∧ xs.length ≤ 8 ∧ AllMs C H xs ∧ BadW H v ∧ ErrS cW H E))))
def spBg (K : Frag) (C CB cM cB cO : Addr) : Sp := fun vs H Q E => ∃ b ms, vs = [b, ms] ∧ ((∃ o L tb, b = .ref o ∧ BoxAt CB H o L tb) ∧ ((BadMs C H ms ∧ ErrS cM H E) ∨ (∃ t xs, ms = .ref t ∧ SqT K H t xs ∧ 1 ≤ xs.length ∧ xs.length ≤ 8 ∧ Far C CB xs b H ∧ ErrS cO H E)))
section
variable {P : Program} {w : World} {K : PySem.W.Frag} {mg : Str → Option Value} {base : Heap} {cN cO cW cM cB C CB cD cI gLn : Addr}
abbrev HND (P : Program) (w : World) (K : Frag) (mg : Str → Option Value) (base : Heap) (C CB cM cB : Addr) : Prop := Has P w K mg base (L2.CX P w) 2 "_need" ["machines", "box"] (spNAx K C CB cM cB)
abbrev HLS (P : Program) (w : World) (K : Frag) (mg : Str → Option Value) (base : Heap) (C CB cO : Addr) : Prop := Has P w K mg base (L2.CX P w) 3 "_need_letters" ["machines", "box"] (spNLs K C CB cO)
theorem ok_pl1 {f : Addr} {fd : FuncData} (F : Fun K "places" "places" sPlaces f fd) (hD : HND P w K mg base C CB cM cB) (hL : HLS P w K mg base C CB cO) : FnOk P w K mg base (L2.CX P w) 4 f fd ["machine", "box"] (spPl1 C CB cM cB cO) := by
  refine F.okX (N := ["machine", "box"]) ⟨rfl, rfl, rfl, by decide +kernel, rfl, by decide +kernel, by decide +kernel⟩ (fun vs H Q E h => ?_) (fun cdv A outer s H vs Q E hr h => ?_)
  · obtain ⟨m, b, rfl, _⟩ := h
    rfl
  · obtain ⟨m, b, rfl, h⟩ := h
    have hr2 : Room 2 _ := hr.mono (by decide)
    have hr3 : Room 3 _ := hr
    refine ⟨_, pss_cons (ps_expr (pe_has (E := E) hD hr2 (passes_call (takes_of rfl rfl rfl rfl) (fun _ _ _ _ h => h)) (pa_cons (pe_tup (pa_cons (pv 0) pa_nil)) (pa_cons (pv 1) pa_nil))))
      (pss_cons (ps_expr (pe_has (E := E) hL hr3 (passes_call (takes_of rfl rfl rfl rfl) (fun _ _ _ _ h => h)) (pa_cons (pe_tup (pa_cons (pv 0) pa_nil)) (pa_cons (pv 1) pa_nil)))) pss_never), ?_⟩
    rcases h with ⟨ms, h⟩ | ⟨⟨o, L, L', tb, rfl, ne, ml, bx, e⟩, q⟩
    · refine ⟨_, rfl, by rw [sizeLine_eq]; simp only [List.length_cons, List.length_nil]; omega, fun t ht => ?_⟩
      have s1 := same_upd (o := .tup [m]) ht
      refine ⟨_, rfl, t, [m], b, rfl, SqT.of upd_same, ms.same s1, ?_⟩
      rcases h with ⟨⟨x, hx, ov⟩, q⟩ | ⟨all, ov, q⟩
      · exact .inl ⟨⟨x, hx, ov.same s1⟩, q _ s1⟩
      · exact .inr ⟨all.same s1, .inr ⟨ov.same s1, q _ s1⟩⟩
    · refine ⟨_, rfl, by rw [sizeLine_eq]; simp only [List.length_cons, List.length_nil]; omega, fun t ht => ?_⟩
      have s1 := same_upd (o := .tup [m]) ht
      refine ⟨_, rfl, t, [m], .ref o, rfl, SqT.of upd_same, (ml.same s1).all.or, .inr ⟨(ml.same s1).all, .inl ⟨⟨o, L', tb, rfl, bx.same s1⟩, ?_⟩⟩⟩
      refine ⟨_, rfl, by rw [sizeLine_eq]; simp only [List.length_cons, List.length_nil]; omega, fun t' ht' => ?_⟩
      have s2 := same_two s1 (o := .tup [m]) ht'
      exact ⟨_, rfl, t', o, [m], L, L', tb, rfl, SqT.of upd_same, ml.same s2, bx.same s2, .inr ⟨ne, e, q _ s2⟩⟩
theorem ok_apx {f : Addr} {fd : FuncData} (F : Fun K "alike_pair" "alike_pair" sAlikeP f fd) (hD : HND P w K mg base C CB cM cB) (hL : HLS P w K mg base C CB cO) : FnOk P w K mg base (L2.CX P w) 4 f fd ["one", "other", "box"] (spAp C CB cM cB cO) := by
  refine F.okX (N := ["one", "other", "box", "left", "right", "place", "word"]) ⟨rfl, rfl, rfl, by decide +kernel, rfl, by decide +kernel, by decide +kernel⟩ (fun vs H Q E h => ?_) (fun cdv A outer s H vs Q E hr h => ?_)
  · obtain ⟨m, m', b, rfl, _⟩ := h
    rfl
  · obtain ⟨m, m', b, rfl, h⟩ := h
    have hr2 : Room 2 _ := hr.mono (by decide)
    have hr3 : Room 3 _ := hr
    refine ⟨_, pss_cons (ps_expr (pe_has (E := E) hD hr2 (passes_call (takes_of rfl rfl rfl rfl) (fun _ _ _ _ h => h)) (pa_cons (pe_tup (pa_cons (pv 0) (pa_cons (pv 1) pa_nil))) (pa_cons (pv 2) pa_nil))))
      (pss_cons (ps_expr (pe_has (E := E) hL hr3 (passes_call (takes_of rfl rfl rfl rfl) (fun _ _ _ _ h => h)) (pa_cons (pe_tup (pa_cons (pv 0) (pa_cons (pv 1) pa_nil))) (pa_cons (pv 2) pa_nil)))) pss_never), ?_⟩
    rcases h with ⟨ms, h⟩ | ⟨⟨o, L, L', tb, rfl, ne, ml, bx, e⟩, q⟩
    · refine ⟨_, rfl, _, rfl, by rw [sizeLine_eq]; simp only [List.length_cons, List.length_nil]; omega, fun t ht => ?_⟩
      have s1 := same_upd (o := .tup [m, m']) ht
      refine ⟨_, rfl, t, [m, m'], b, rfl, SqT.of upd_same, ms.same s1, ?_⟩
      rcases h with ⟨⟨x, hx, ov⟩, q⟩ | ⟨all, ov, q⟩
      · exact .inl ⟨⟨x, hx, ov.same s1⟩, q _ s1⟩
      · exact .inr ⟨all.same s1, .inr ⟨ov.same s1, q _ s1⟩⟩
    · refine ⟨_, rfl, _, rfl, by rw [sizeLine_eq]; simp only [List.length_cons, List.length_nil]; omega, fun t ht => ?_⟩
      have s1 := same_upd (o := .tup [m, m']) ht
      refine ⟨_, rfl, t, [m, m'], .ref o, rfl, SqT.of upd_same, (ml.same s1).all.or, .inr ⟨(ml.same s1).all, .inl ⟨⟨o, L', tb, rfl, bx.same s1⟩, ?_⟩⟩⟩
      refine ⟨_, rfl, _, rfl, by rw [sizeLine_eq]; simp only [List.length_cons, List.length_nil]; omega, fun t' ht' => ?_⟩
      have s2 := same_two s1 (o := .tup [m, m']) ht'
      exact ⟨_, rfl, t', o, [m, m'], L, L', tb, rfl, SqT.of upd_same, ml.same s2, bx.same s2, .inr ⟨ne, e, q _ s2⟩⟩
theorem ok_iapx {f : Addr} {fd : FuncData} (F : Fun K "is_alike_pair" "is_alike_pair" sIsAlikeP f fd) (hD : HND P w K mg base C CB cM cB) (hL : HLS P w K mg base C CB cO) : FnOk P w K mg base (L2.CX P w) 4 f fd ["one", "other", "box", "value"] (spApV C CB cM cB cO) := by
  refine F.okX (N := ["one", "other", "box", "value"]) ⟨rfl, rfl, rfl, by decide +kernel, rfl, by decide +kernel, by decide +kernel⟩ (fun vs H Q E h => ?_) (fun cdv A outer s H vs Q E hr h => ?_)
  · obtain ⟨m, m', b, v, rfl, _⟩ := h
    rfl
  · obtain ⟨m, m', b, v, rfl, h⟩ := h
    have hr2 : Room 2 _ := hr.mono (by decide)
    have hr3 : Room 3 _ := hr
    refine ⟨_, pss_cons (ps_expr (pe_has (E := E) hD hr2 (passes_call (takes_of rfl rfl rfl rfl) (fun _ _ _ _ h => h)) (pa_cons (pe_tup (pa_cons (pv 0) (pa_cons (pv 1) pa_nil))) (pa_cons (pv 2) pa_nil))))
      (pss_cons (ps_expr (pe_has (E := E) hL hr3 (passes_call (takes_of rfl rfl rfl rfl) (fun _ _ _ _ h => h)) (pa_cons (pe_tup (pa_cons (pv 0) (pa_cons (pv 1) pa_nil))) (pa_cons (pv 2) pa_nil)))) pss_never), ?_⟩
    rcases h with ⟨ms, h⟩ | ⟨⟨o, L, L', tb, rfl, ne, ml, bx, e⟩, q⟩
    · refine ⟨_, rfl, _, rfl, by rw [sizeLine_eq]; simp only [List.length_cons, List.length_nil]; omega, fun t ht => ?_⟩
      have s1 := same_upd (o := .tup [m, m']) ht
      refine ⟨_, rfl, t, [m, m'], b, rfl, SqT.of upd_same, ms.same s1, ?_⟩
      rcases h with ⟨⟨x, hx, ov⟩, q⟩ | ⟨all, ov, q⟩
      · exact .inl ⟨⟨x, hx, ov.same s1⟩, q _ s1⟩
      · exact .inr ⟨all.same s1, .inr ⟨ov.same s1, q _ s1⟩⟩
    · refine ⟨_, rfl, _, rfl, by rw [sizeLine_eq]; simp only [List.length_cons, List.length_nil]; omega, fun t ht => ?_⟩
      have s1 := same_upd (o := .tup [m, m']) ht
      refine ⟨_, rfl, t, [m, m'], .ref o, rfl, SqT.of upd_same, (ml.same s1).all.or, .inr ⟨(ml.same s1).all, .inl ⟨⟨o, L', tb, rfl, bx.same s1⟩, ?_⟩⟩⟩
      refine ⟨_, rfl, _, rfl, by rw [sizeLine_eq]; simp only [List.length_cons, List.length_nil]; omega, fun t' ht' => ?_⟩
      have s2 := same_two s1 (o := .tup [m, m']) ht'
      exact ⟨_, rfl, t', o, [m, m'], L, L', tb, rfl, SqT.of upd_same, ml.same s2, bx.same s2, .inr ⟨ne, e, q _ s2⟩⟩
theorem ok_iax {f : Addr} {fd : FuncData} (F : Fun K "is_apart_paper" "is_apart_paper" sIsApartP f fd) (hD : HND P w K mg base C CB cM cB) (hL : HLS P w K mg base C CB cO) : FnOk P w K mg base (L2.CX P w) 4 f fd ["one", "other", "box", "value"] (spApV C CB cM cB cO) := by
  refine F.okX (N := ["one", "other", "box", "value", "left", "state", "place"]) ⟨rfl, rfl, rfl, by decide +kernel, rfl, by decide +kernel, by decide +kernel⟩ (fun vs H Q E h => ?_) (fun cdv A outer s H vs Q E hr h => ?_)
  · obtain ⟨m, m', b, v, rfl, _⟩ := h
    rfl
  · obtain ⟨m, m', b, v, rfl, h⟩ := h
    have hr2 : Room 2 _ := hr.mono (by decide)
    have hr3 : Room 3 _ := hr
    refine ⟨_, pss_cons (ps_expr (pe_has (E := E) hD hr2 (passes_call (takes_of rfl rfl rfl rfl) (fun _ _ _ _ h => h)) (pa_cons (pe_tup (pa_cons (pv 0) (pa_cons (pv 1) pa_nil))) (pa_cons (pv 2) pa_nil))))
      (pss_cons (ps_expr (pe_has (E := E) hL hr3 (passes_call (takes_of rfl rfl rfl rfl) (fun _ _ _ _ h => h)) (pa_cons (pe_tup (pa_cons (pv 0) (pa_cons (pv 1) pa_nil))) (pa_cons (pv 2) pa_nil)))) pss_never), ?_⟩
    rcases h with ⟨ms, h⟩ | ⟨⟨o, L, L', tb, rfl, ne, ml, bx, e⟩, q⟩
    · refine ⟨_, rfl, _, rfl, by rw [sizeLine_eq]; simp only [List.length_cons, List.length_nil]; omega, fun t ht => ?_⟩
      have s1 := same_upd (o := .tup [m, m']) ht
      refine ⟨_, rfl, t, [m, m'], b, rfl, SqT.of upd_same, ms.same s1, ?_⟩
      rcases h with ⟨⟨x, hx, ov⟩, q⟩ | ⟨all, ov, q⟩
      · exact .inl ⟨⟨x, hx, ov.same s1⟩, q _ s1⟩
      · exact .inr ⟨all.same s1, .inr ⟨ov.same s1, q _ s1⟩⟩
    · refine ⟨_, rfl, _, rfl, by rw [sizeLine_eq]; simp only [List.length_cons, List.length_nil]; omega, fun t ht => ?_⟩
      have s1 := same_upd (o := .tup [m, m']) ht
      refine ⟨_, rfl, t, [m, m'], .ref o, rfl, SqT.of upd_same, (ml.same s1).all.or, .inr ⟨(ml.same s1).all, .inl ⟨⟨o, L', tb, rfl, bx.same s1⟩, ?_⟩⟩⟩
      refine ⟨_, rfl, _, rfl, by rw [sizeLine_eq]; simp only [List.length_cons, List.length_nil]; omega, fun t' ht' => ?_⟩
      have s2 := same_two s1 (o := .tup [m, m']) ht'
      exact ⟨_, rfl, t', o, [m, m'], L, L', tb, rfl, SqT.of upd_same, ml.same s2, bx.same s2, .inr ⟨ne, e, q _ s2⟩⟩
theorem ok_wt {f : Addr} {fd : FuncData} (F : Fun K "word_to" "word_to" sWordTo f fd) (T : TN mg) (hD : HND P w K mg base C CB cM cB) (hL : HLS P w K mg base C CB cO) (hN : HNN P w K mg base cN) (lenS : PySem.W.findIn K (.ref CB) "__len__" = some (some (.ref gLn))) (lenI : PySem.W.isFn K (.ref gLn) = true) (lenR : FnR P w K mg base CX0 1 gLn (fun vs H Q E => spBLen CB (vs ++ []) H Q E)) : FnOk P w K mg base (L2.CX P w) 4 f fd ["machine", "box", "place"] (spWt C CB cM cB cO cN) := by
  refine F.okX (N := ["machine", "box", "place"]) ⟨rfl, rfl, rfl, by decide +kernel, rfl, by decide +kernel, by decide +kernel⟩ (fun vs H Q E h => ?_) (fun cdv A outer s H vs Q E hr h => ?_)
  · obtain ⟨m, b, p, rfl, _⟩ := h
    rfl
  · obtain ⟨m, b, p, rfl, h⟩ := h
    have hr2 : Room 2 _ := hr.mono (by decide)
    have hr3 : Room 3 _ := hr
    refine ⟨_, pss_cons (ps_expr (pe_has (E := E) hD hr2 (passes_call (takes_of rfl rfl rfl rfl) (fun _ _ _ _ h => h)) (pa_cons (pe_tup (pa_cons (pv 0) pa_nil)) (pa_cons (pv 1) pa_nil))))
      (pss_cons (ps_expr (pe_has (E := E) hN hr (passes_call (takes_of rfl rfl rfl rfl) (fun _ _ _ _ h => h)) (pa_cons (pv 2) (pa_cons pe_int (pa_cons (pe_op op_sub (pe_callB (OWN.call_lenO lenS lenI lenR hr2) (by rfl) T.len PySem.boot_len (pa_cons (pv 1) pa_nil)) pe_int) pa_nil)))))
      (pss_cons (ps_expr (pe_has (E := E) hL hr3 (passes_call (takes_of rfl rfl rfl rfl) (fun _ _ _ _ h => h)) (pa_cons (pe_tup (pa_cons (pv 0) pa_nil)) (pa_cons (pv 1) pa_nil)))) pss_never)), ?_⟩
    rcases h with ⟨ms, h⟩ | ⟨n, ⟨o, L0, tb0, rfl, all, bx, en, n3⟩, op, h⟩
    · refine ⟨_, rfl, by rw [sizeLine_eq]; simp only [List.length_cons, List.length_nil]; omega, fun t ht => ?_⟩
      have s1 := same_upd (o := .tup [m]) ht
      refine ⟨_, rfl, t, [m], b, rfl, SqT.of upd_same, ms.same s1, ?_⟩
      rcases h with ⟨⟨x, hx, ov⟩, q⟩ | ⟨all, ov, q⟩
      · exact .inl ⟨⟨x, hx, ov.same s1⟩, q _ s1⟩
      · exact .inr ⟨all.same s1, .inr ⟨ov.same s1, q _ s1⟩⟩
    · refine ⟨_, rfl, by rw [sizeLine_eq]; simp only [List.length_cons, List.length_nil]; omega, fun t ht => ?_⟩
      have s1 := same_upd (o := .tup [m]) ht
      refine ⟨_, rfl, t, [m], .ref o, rfl, SqT.of upd_same, (all.same s1).or, .inr ⟨all.same s1, .inl ⟨⟨o, L0, tb0, rfl, bx.same s1⟩, ?_⟩⟩⟩
      obtain ⟨dx, r, h1, rows⟩ := bx.same s1
      refine ⟨_, rfl, _, rfl, o, dx, _, rfl, h1, o, L0, tb0, rfl, ⟨dx, r, h1, rows⟩, tb0.length, rfl, by omega, ?_⟩
      refine ⟨_, _, rfl, rfl, p, _, _, rfl, op.same s1, ?_⟩
      rw [en]
      rcases h with ⟨e, q⟩ | ⟨e, ⟨o', L, L', tb, eo, ne, ml, bx2, e3⟩, q⟩
      · exact .inr ⟨e, q.to s1⟩
      · cases eo
        refine .inl ⟨e, _, rfl, by rw [sizeLine_eq]; simp only [List.length_cons, List.length_nil]; omega, fun t' ht' => ?_⟩
        have s2 := same_two s1 (o := .tup [m]) ht'
        exact ⟨_, rfl, t', o, [m], L, L', tb, rfl, SqT.of upd_same, ml.same s2, bx2.same s2, .inr ⟨ne, e3, q _ s2⟩⟩
theorem ok_isn {f : Addr} {fd : FuncData} (F : Fun K "is_seen" "is_seen" sIsSeen f fd) (hD : HND P w K mg base C CB cM cB) (hW : HNW P w K mg base cW) : FnOk P w K mg base (L2.CX P w) 4 f fd ["machine", "box", "word"] (spIsSn C CB cM cB cW) := by
  refine F.okX (N := ["machine", "box", "word"]) ⟨rfl, rfl, rfl, by decide +kernel, rfl, by decide +kernel, by decide +kernel⟩ (fun vs H Q E h => ?_) (fun cdv A outer s H vs Q E hr h => ?_)
  · obtain ⟨m, b, p, rfl, _⟩ := h
    rfl
  · obtain ⟨m, b, v, rfl, h⟩ := h
    have hr2 : Room 2 _ := hr.mono (by decide)
    refine ⟨_, pss_cons (ps_expr (pe_has (E := E) hD hr2 (passes_call (takes_of rfl rfl rfl rfl) (fun _ _ _ _ h => h)) (pa_cons (pe_tup (pa_cons (pv 0) pa_nil)) (pa_cons (pv 1) pa_nil))))
      (pss_cons (ps_expr (pe_has (E := E) hW hr2 (passes_call (takes_of rfl rfl rfl rfl) (fun _ _ _ _ h => h)) (pa_cons (pv 2) pa_nil))) pss_never), ?_⟩
    rcases h with ⟨ms, h⟩ | ⟨n, ⟨o, L0, tb0, rfl, all, bx, en, n3⟩, bw, q⟩
    · refine ⟨_, rfl, by rw [sizeLine_eq]; simp only [List.length_cons, List.length_nil]; omega, fun t ht => ?_⟩
      have s1 := same_upd (o := .tup [m]) ht
      refine ⟨_, rfl, t, [m], b, rfl, SqT.of upd_same, ms.same s1, ?_⟩
      rcases h with ⟨⟨x, hx, ov⟩, q⟩ | ⟨all, ov, q⟩
      · exact .inl ⟨⟨x, hx, ov.same s1⟩, q _ s1⟩
      · exact .inr ⟨all.same s1, .inr ⟨ov.same s1, q _ s1⟩⟩
    · refine ⟨_, rfl, by rw [sizeLine_eq]; simp only [List.length_cons, List.length_nil]; omega, fun t ht => ?_⟩
      have s1 := same_upd (o := .tup [m]) ht
      refine ⟨_, rfl, t, [m], .ref o, rfl, SqT.of upd_same, (all.same s1).or, .inr ⟨all.same s1, .inl ⟨⟨o, L0, tb0, rfl, bx.same s1⟩, ?_⟩⟩⟩
      refine ⟨_, rfl, v, rfl, ?_⟩
      rcases (bw.same s1).bad (K := K) with ⟨x, rfl, e⟩ | hn
      · exact .inl ⟨x, rfl, .inr ⟨e, q _ s1⟩⟩
      · exact .inr ⟨hn, q _ s1⟩
theorem ok_tlx {f : Addr} {fd : FuncData} (F : Fun K "tells_apart" "tells_apart" sTells f fd) (hA : Has P w K mg base (L2.CX P w) 4 "alike_pair" ["one", "other", "box"] (spAp C CB cM cB cO)) : FnOk P w K mg base (L2.CX P w) 5 f fd ["one", "other", "box"] (spAp C CB cM cB cO) := by
  refine F.okX (N := ["one", "other", "box"]) ⟨rfl, rfl, rfl, by decide +kernel, rfl, by decide +kernel, by decide +kernel⟩ (fun vs H Q E h => ?_) (fun cdv A outer s H vs Q E hr h => ?_)
  · obtain ⟨m, m', b, rfl, _⟩ := h
    rfl
  · obtain ⟨m, m', b, rfl, h⟩ := h
    refine ⟨_, pss_one (ps_ret (pe_cmp (pc_isN (pe_has (E := E) hA hr (passes_call (takes_of rfl rfl rfl rfl) (fun _ _ _ _ h => h)) (pa_cons (pv 0) (pa_cons (pv 1) (pa_cons (pv 2) pa_nil))))))), ?_⟩
    exact ⟨_, rfl, _, rfl, _, rfl, m, m', b, rfl, h⟩
theorem ok_app {f : Addr} {fd : FuncData} (F : Fun K "apart_paper" "apart_paper" sApartP f fd) (hA : Has P w K mg base (L2.CX P w) 4 "alike_pair" ["one", "other", "box"] (spAp C CB cM cB cO)) : FnOk P w K mg base (L2.CX P w) 5 f fd ["one", "other", "box"] (spAp C CB cM cB cO) := by
  refine F.okX (N := ["one", "other", "box"]) ⟨rfl, rfl, rfl, by decide +kernel, rfl, by decide +kernel, by decide +kernel⟩ (fun vs H Q E h => ?_) (fun cdv A outer s H vs Q E hr h => ?_)
  · obtain ⟨m, m', b, rfl, _⟩ := h
    rfl
  · obtain ⟨m, m', b, rfl, h⟩ := h
    refine ⟨_, pss_cons (ps_if (pt_cmp (pc_notN (pe_has (E := E) hA hr (passes_call (takes_of rfl rfl rfl rfl) (fun _ _ _ _ h => h)) (pa_cons (pv 0) (pa_cons (pv 1) (pa_cons (pv 2) pa_nil)))))) (pss_one (ps_ret pe_non)) pss_nil) pss_never, ?_⟩
    exact ⟨_, rfl, _, rfl, _, rfl, m, m', b, rfl, h⟩
theorem ok_gsx {f : Addr} {fd : FuncData} (F : Fun K "guesses_of" "guesses_of" sGuesses f fd) (hB : Has P w K mg base (L2.CX P w) 1 "need_box" ["box"] (spNBx CB cB)) (hS : Has P w K mg base (L2.CX P w) 2 "_need_some" ["machines"] (spNSm K C cM)) (hW : HNW P w K mg base cW) : FnOk P w K mg base (L2.CX P w) 4 f fd ["box", "machines", "word"] (spGs K C CB cM cB cW) := by
  refine F.okX (N := ["box", "machines", "word", "place", "at", "machine"]) ⟨rfl, rfl, rfl, by decide +kernel, rfl, by decide +kernel, by decide +kernel⟩ (fun vs H Q E h => ?_) (fun cdv A outer s H vs Q E hr h => ?_)
  · obtain ⟨b, ms, v, rfl, _⟩ := h
    rfl
  · obtain ⟨b, ms, v, rfl, h⟩ := h
    have hr1 : Room 1 _ := hr.mono (by decide)
    have hr2 : Room 2 _ := hr.mono (by decide)
    refine ⟨_, pss_cons (ps_expr (pe_has (E := E) hB hr1 (passes_call (takes_of rfl rfl rfl rfl) (fun _ _ _ _ h => h)) (pa_cons (pv 0) pa_nil)))
      (pss_cons (ps_expr (pe_has (E := E) hS hr2 (passes_call (takes_of rfl rfl rfl rfl) (fun _ _ _ _ h => h)) (pa_cons (pv 1) pa_nil)))
      (pss_cons (ps_expr (pe_has (E := E) hW hr2 (passes_call (takes_of rfl rfl rfl rfl) (fun _ _ _ _ h => h)) (pa_cons (pv 2) pa_nil))) pss_never)), ?_⟩
    rcases h with ⟨ov, q⟩ | ⟨bx, ⟨bad, q⟩ | ⟨t, xs, rfl, hT, l1, l8, all, bw, q⟩⟩
    · exact ⟨_, rfl, b, rfl, .inr ⟨ov, q.now⟩⟩
    · exact ⟨_, rfl, b, rfl, .inl ⟨bx, _, rfl, ms, rfl, .inr ⟨bad, q.now⟩⟩⟩
    · refine ⟨_, rfl, b, rfl, .inl ⟨bx, _, rfl, .ref t, rfl, .inl ⟨t, xs, rfl, hT, l1, l8, all, _, rfl, v, rfl, ?_⟩⟩⟩
      rcases bw.bad (K := K) with ⟨x, rfl, e⟩ | hn
      · exact .inl ⟨x, rfl, .inr ⟨e, q.now⟩⟩
      · exact .inr ⟨hn, q.now⟩
theorem ok_bgx {f : Addr} {fd : FuncData} (F : Fun K "box_groups" "box_groups" sBGroups f fd) (hB : Has P w K mg base (L2.CX P w) 1 "need_box" ["box"] (spNBx CB cB)) (hS : Has P w K mg base (L2.CX P w) 2 "_need_some" ["machines"] (spNSm K C cM)) (hL : HLS P w K mg base C CB cO) : FnOk P w K mg base (L2.CX P w) 4 f fd ["box", "machines"] (spBg K C CB cM cB cO) := by
  refine F.okX (N := ["box", "machines", "seen", "machine", "one", "other", "place"]) ⟨rfl, rfl, rfl, by decide +kernel, rfl, by decide +kernel, by decide +kernel⟩ (fun vs H Q E h => ?_) (fun cdv A outer s H vs Q E hr h => ?_)
  · obtain ⟨b, ms, rfl, _⟩ := h
    rfl
  · obtain ⟨b, ms, rfl, bx, h⟩ := h
    have hr1 : Room 1 _ := hr.mono (by decide)
    have hr2 : Room 2 _ := hr.mono (by decide)
    refine ⟨_, pss_cons (ps_expr (pe_has (E := E) hB hr1 (passes_call (takes_of rfl rfl rfl rfl) (fun _ _ _ _ h => h)) (pa_cons (pv 0) pa_nil)))
      (pss_cons (ps_expr (pe_has (E := E) hS hr2 (passes_call (takes_of rfl rfl rfl rfl) (fun _ _ _ _ h => h)) (pa_cons (pv 1) pa_nil)))
      (pss_cons (ps_expr (pe_has (E := E) hL hr (passes_call (takes_of rfl rfl rfl rfl) (fun _ _ _ _ h => h)) (pa_cons (pv 1) (pa_cons (pv 0) pa_nil)))) pss_never)), ?_⟩
    rcases h with ⟨bad, q⟩ | ⟨t, xs, rfl, hT, l1, l8, ⟨o, L, L', tb, rfl, ne, ml, bx2, e⟩, q⟩
    · exact ⟨_, rfl, b, rfl, .inl ⟨bx, _, rfl, ms, rfl, .inr ⟨bad, q.now⟩⟩⟩
    · exact ⟨_, rfl, _, rfl, .inl ⟨bx, _, rfl, .ref t, rfl, .inl ⟨t, xs, rfl, hT, l1, l8, ml.all, _, rfl, _, rfl, t, o, xs, L, L', tb, rfl, hT, ml, bx2, .inr ⟨ne, e, q.now⟩⟩⟩⟩
end
end WK
set_option Elab.async false
set_option linter.all false
set_option maxRecDepth 100000
set_option maxHeartbeats 8000000
namespace WK
open PySem L2 PyProof.Rows LCX K1 FV LamX NdefX RM
open TX (sg sigs)
open PySem.W (Frag kitOne)
/-- what stands but at the dice and in the tables -/
def ButT (p : Addr) (H H' : Hp) : Prop := ∀ b o, H b = some o → b ≠ p → (∀ ps, o ≠ .tbl ps) → H' b = some o
/-- .. and but what is known of functions -/
def Bx (p : Addr) (H H' : Hp) : Prop := ∀ b o, H b = some o → b ≠ p → (∀ ps, o ≠ .tbl ps) → (∀ φ, o ≠ .ext φ) → H' b = some o
theorem ButT.refl (p : Addr) (H : Hp) : ButT p H H := fun _ _ h _ _ => h
theorem ButT.trans {p : Addr} {H H1 H2 : Hp} (a : ButT p H H1) (b : ButT p H1 H2) : ButT p H H2 := fun c o h n t => b c o (a c o h n t) n t
theorem ButT.ofBut {p : Addr} {H H' : Hp} (h : But p H H') : ButT p H H' := fun b o e n _ => h b o e n
theorem ButT.ofSame {p : Addr} {H H' : Hp} (h : Same H H') : ButT p H H' := fun b o e _ _ => h b o e
theorem ButT.ofX {p : Addr} {H H' : Hp} (h : ExtN H H') : ButT p H H' := fun b o e _ n => h b o e n
theorem ButT.bx {p : Addr} {H H' : Hp} (h : ButT p H H') : Bx p H H' := fun b o e n t _ => h b o e n t
theorem Bx.trans {p : Addr} {H H1 H2 : Hp} (a : Bx p H H1) (b : Bx p H1 H2) : Bx p H H2 := fun c o h n t x => b c o (a c o h n t x) n t x
theorem Bx.same {p : Addr} {H H1 H2 : Hp} (a : Bx p H H1) (b : Same H1 H2) : Bx p H H2 := fun c o h n t x => b c o (a c o h n t x)
theorem DiceAt.off {H : Hp} {p a : Addr} {o : HO} (h : DiceAt H p) (e : H a = some o) (n : ∀ x y z : Int, o ≠ .lst [.int x, .int y, .int z]) : a ≠ p := fun z => by
  obtain ⟨x, y, w, q, _⟩ := h
  rw [z, q] at e
  exact n x y w (Option.some.inj e).symm
theorem tabs_but {T : List (Addr × Str)} {p : Addr} {H H' : Hp} (t : Tabs T H) (d : DiceAt H p) (b : But p H H') : Tabs T H' := fun q hq => by
  obtain ⟨ps, h1, h2, h3⟩ := t q hq
  refine ⟨ps, b _ _ h1 (d.off h1 fun _ _ _ => (nomatch ·)), h2, fun pos cv hc => ?_⟩
  obtain ⟨c, e1, e2⟩ := h3 pos cv hc
  exact ⟨c, e1, b _ _ e2 (d.off e2 fun _ _ _ => (nomatch ·))⟩
section
variable (P : Program) (w : World) (K : Frag) (mg : Str → Option Value) (base : Heap) (c : ErrC) (p : Addr)
/-- the function at f, called with nothing, raises what is met as wd -/
def Tells (H0 : Hp) (f : Addr) (wd : Str) : Prop := CallV P w K mg base (L2.CX P w) 7 f (ButT p H0) (fun vs H _ E => vs = [] ∧ ∀ cls d H', Same H H' → ErrW c H' cls d wd → E cls d H')
def Calls (H : Hp) (vs : List V) : Prop := ∀ x ∈ vs, ∃ (t f : Addr) (due : Str), x = .ref t ∧ H t = some (.tup [.ref f, .str due]) ∧ Tells P w K mg base c p H f due ∧ PyData.canLay0 (.str due) = true
end
section
variable {P : Program} {w : World} {K : Frag} {mg : Str → Option Value} {base : Heap} {c : ErrC} {p : Addr}
theorem Tells.to {H H' : Hp} {f : Addr} {wd : Str} (h : Tells P w K mg base c p H f wd) (b : ButT p H H') : Tells P w K mg base c p H' f wd := CallV.imp h (fun G g => b.trans g) fun _ _ _ _ _ q => q
theorem Calls.to {H H' : Hp} {vs : List V} (h : Calls P w K mg base c p H vs) (b : ButT p H H') (d : DiceAt H p) : Calls P w K mg base c p H' vs := fun x hx => by
  obtain ⟨t, f, due, e, ht, tl, lay⟩ := h x hx
  exact ⟨t, f, due, e, b _ _ ht (d.off ht fun _ _ _ => (nomatch ·)) (fun _ => (nomatch ·)), tl.to b, lay⟩
theorem Calls.app {H : Hp} {vs us : List V} (h : Calls P w K mg base c p H vs) (g : Calls P w K mg base c p H us) : Calls P w K mg base c p H (vs ++ us) := fun x hx => (List.mem_append.mp hx).elim (h x) (g x)
theorem fits_inj {cl : List (Str × Addr)} {fr : List Str} {cs : Cs} {vals : List V} (F : Fits cl fr cs vals) : ∀ x y c, cl.lookup x = some c → cl.lookup y = some c → x = y := fun x y c e1 e2 => by
  obtain ⟨i, q, hi, hq, rfl⟩ := F.mem e1
  obtain ⟨j, r, hj, hr, e⟩ := F.mem e2
  have : i = j := nodup_at F.nd (x := q.1) (by rw [List.getElem?_map, hq] <;> rfl) (by rw [List.getElem?_map, hr, ← e] <;> rfl)
  rw [this, hj] at hi
  exact (Option.some.inj hi).symm
/-- a lambda's cells, out of those of its maker -/
theorem fits_lam {cl0 : List (Str × Addr)} {fr0 fr : List Str} {cs : Cs} {vals0 vals : List V} {names : List (Str × NameKind)} (F : Fits cl0 fr0 cs vals0) (hfr : ∀ y ∈ names, y.2 = .free → y.1 ∈ fr) (hin : ∀ y ∈ fr, (y, NameKind.free) ∈ names) (js : List Nat)
    (h1 : js.map (fun j => fr0[j]?) = fr.map some) (h2 : js.map (fun j => vals0[j]?) = vals.map some) : Sits (cloFrom cl0 names []) fr cs vals := by
  have e1 := congrArg List.length h1
  rw [List.length_map, List.length_map] at e1
  have sub0 : ∀ y ∈ fr, ∃ c, cl0.lookup y = some c := fun y hy => by
    obtain ⟨i, hi⟩ := List.mem_iff_getElem?.mp hy
    have hl : i < js.length := by rw [e1]; exact (List.getElem?_eq_some_iff.mp hi).1
    have g1 : fr0[js[i]]? = some y := by
      have := congrArg (fun l => l[i]?) h1
      rw [List.getElem?_map, List.getElem?_map, List.getElem?_eq_getElem hl, hi] at this
      exact Option.some.inj this
    have hc : js[i] < cs.length := by rw [F.len]; exact (List.getElem?_eq_some_iff.mp g1).1
    exact ⟨_, F.at_ _ y _ g1 (List.getElem?_eq_getElem hc)⟩
  have hf : ∀ y ∈ names, y.2 = .free → ∃ c, cl0.lookup y.1 = some c := fun y hy e => sub0 _ (hfr y hy e)
  refine F.sits (fun x y c a b => fits_inj F x y c (clo_cm hf a) (clo_cm hf b)) (fun y hy c e => clo_has hf (hin y hy) e) (fun y c e => ?_) js h1 h2
  rcases clo_only e with z | z
  · exact hfr _ z rfl
  · cases z
/-- what is to be shown of a lambda: l, made where H' was, tells wd -/
def LamTell (P : Program) (w : World) (K : Frag) (mg : Str → Option Value) (base : Heap) (c : ErrC) (p : Addr) (fr0 : List Str) (vals0 : List V) (H' : Hp) (q : Str) (l : Expr) (wd : Str) : Prop :=
  ∀ (cl0 : List (Str × Addr)) (cs : Cs) (f c' : Addr), Fits cl0 fr0 cs vals0 → (∀ p ∈ cs, H' p.1 = none) → DiceAt H' p → H' f = some (LamO f ⟨"<lambda>", q, lamPar l, [], lamSc l, cloFrom cl0 (lamSc l).names [], c'⟩ (lamBody l)) → H' c' = some (CodeO c' q) → Tells P w K mg base c p (onn cs H') f wd
theorem shw_on {cs : Cs} {H : Hp} {v : V} {x : Str} (h : Shw H v x) (n : ∀ p ∈ cs, H p.1 = none) : Shw (onn cs H) v x := h.to fun a o _ e => by
  rw [onn_out fun z => by obtain ⟨p, hp, rfl⟩ := List.mem_map.mp z; rw [n p hp] at e; cases e]
  exact e
theorem errw_on {cs : Cs} {H : Hp} {cls : Value} {d : Option Addr} {wd : Str} (h : ErrW c H cls d wd) (n : ∀ p ∈ cs, H p.1 = none) : ErrW c (onn cs H) cls d wd := by
  have at_ : ∀ {a : Addr} {o : HO}, H a = some o → onn cs H a = some o := fun {a o} e => by
    rw [onn_out fun z => by obtain ⟨p, hp, rfl⟩ := List.mem_map.mp z; rw [n p hp] at e; cases e]
    exact e
  cases h with
  | w => exact .w
  | m => exact .m
  | b => exact .b
  | o => exact .o
  | n h s => exact .n (at_ h) (shw_on s n)
  | t h => exact .t (at_ h)
theorem lam_tell {fr0 fr : List Str} {vals0 vals : List V} {H' : Hp} {q : Str} {l : Expr} {wd : Str} (js : List Nat) (S : NScope fr [] fr (lamSc l)) (hin : ∀ y ∈ fr, (y, NameKind.free) ∈ (lamSc l).names) (h1 : js.map (fun j => fr0[j]?) = fr.map some) (h2 : js.map (fun j => vals0[j]?) = vals.map some)
    (bind : ∀ (cl : List (Str × Addr)) (c' : Addr) (pm cv ctv : Value), bindArgs (PySem.W.kla_fn "<lambda>" q (lamPar l) (lamBody l) (lamSc l) cl pm cv ctv) ⟨[], []⟩ = pure [])
    (body : ∀ (cl : List (Str × Addr)) (c' f : Addr) (A : Around) (outer : List Env) (s : Shared) (H : Hp) (E : XK), Room 6 (A.deeper (envF ⟨"<lambda>", q, lamPar l, [], lamSc l, cl, c'⟩ f s.heap.objs.size)) → Bx p H' H → (∀ cls d H2, Same H H2 → ErrW c H2 cls d wd → E cls d H2) →
      ∃ te, PE (ncx (L2.CX P w) P w K mg base fr ⟨"<lambda>", q, lamPar l, [], lamSc l, cl, c'⟩ f A outer s H E) (lamBody l) te ∧ ∀ Q, te (startF fr [] (vals.map some)) H Q) :
    LamTell P w K mg base c p fr0 vals0 H' q l wd := by
  intro cl0 cs f c' ft n0 hD hf hc
  have out : ∀ {a : Addr} {o : HO}, H' a = some o → onn cs H' a = some o := fun {a o} e => by
    rw [onn_out fun z => by obtain ⟨p, hp, rfl⟩ := List.mem_map.mp z; rw [n0 p hp] at e; cases e]
    exact e
  have lk : LOk P w K mg base (L2.CX P w) 7 f ⟨"<lambda>", q, lamPar l, [], lamSc l, cloFrom cl0 (lamSc l).names [], c'⟩ (lamBody l) fr (fun ws vs H _ E => vs = [] ∧ ws = vals.map some ∧ Bx p H' H ∧ ∀ cls d H2, Same H H2 → ErrW c H2 cls d wd → E cls d H2) := by
    refine lok_of (N := fr) (ps := []) S (fun pm cv ctv us hl => ?_) (fun ws vs H Q E h => by rw [h.1] <;> rfl) (fun A outer s H vs ws Q E hr hw h => ?_)
    · have : us = [] := List.length_eq_zero_iff.mp hl
      rw [this]
      exact bind _ c' pm cv ctv
    · obtain ⟨rfl, rfl, bx, e⟩ := h
      obtain ⟨te, pe, rd⟩ := body _ c' f A outer s H E hr bx e
      exact ⟨te, pe, rd Q⟩
  have sits := fits_lam ft (names := (lamSc l).names) S.free hin js h1 h2
  refine CallV.imp (callV_lam lk sits ft.all) (fun G g => ⟨g _ _ (out hf) (hD.off hf fun _ _ _ => (nomatch ·)) (fun _ => (nomatch ·)), g _ _ (out hc) (hD.off hc fun _ _ _ => (nomatch ·)) codeO_ne, fun r hr => g _ _ (onn_lay ft.nd r hr) (fun z => ?_) fun _ => (nomatch ·)⟩) (fun vs G Q E g ⟨e, told⟩ => ⟨e, rfl, ?_, fun cls d H2 s2 ew n2 => ?_⟩)
  · have := n0 r hr
    obtain ⟨x, y, w', e, _⟩ := hD
    rw [z, e] at this
    cases this
  · have lay : Lay cs G := fun r hr => g _ _ (onn_lay ft.nd r hr) (fun z => by
      have := n0 r hr
      obtain ⟨x, y, w', e, _⟩ := hD
      rw [z, e] at this
      cases this) fun _ => (nomatch ·)
    intro b o e nb nt nx
    rw [off_out (lay_not lay (g b o (out e) nb nt) nx)]
    exact g b o (out e) nb nt
  · have lay : Lay cs G := fun r hr => g _ _ (onn_lay ft.nd r hr) (fun z => by
      have := n0 r hr
      obtain ⟨x, y, w', e, _⟩ := hD
      rw [z, e] at this
      cases this) fun _ => (nomatch ·)
    refine told cls d _ (fun b o e => ?_) (errw_on ew n2)
    by_cases hb : b ∈ cs.map (·.1)
    · obtain ⟨r, hr, rfl⟩ := List.mem_map.mp hb
      rw [lay r hr] at e
      cases e
      exact onn_lay ft.nd r hr
    · rw [onn_out hb]
      exact s2 b o (by rw [off_out hb]; exact e)
end
/-- the calls made so far: each a tuple of a lambda and its word -/
def Its (q : Str) (cl0 : List (Str × Addr)) (H : Hp) : List V → List (Expr × Str) → Prop
  | [], [] => True
  | x :: vs, (l, due) :: ls => (∃ t f c' : Addr, x = .ref t ∧ H t = some (.tup [.ref f, .str due]) ∧ H f = some (LamO f ⟨"<lambda>", q, lamPar l, [], lamSc l, cloFrom cl0 (lamSc l).names [], c'⟩ (lamBody l)) ∧ H c' = some (CodeO c' q)) ∧ Its q cl0 H vs ls
  | _, _ => False
theorem Its.to {q : Str} {cl0 : List (Str × Addr)} {H H' : Hp} (k : ∀ b o, H b = some o → (∀ ps, o ≠ .tbl ps) → (∀ xs, o ≠ .lst xs) → H' b = some o) : ∀ {vs : List V} {ls : List (Expr × Str)}, Its q cl0 H vs ls → Its q cl0 H' vs ls
  | [], [], _ => trivial
  | _ :: _, _ :: _, ⟨⟨t, f, c', e, h1, h2, h3⟩, r⟩ => ⟨⟨t, f, c', e, k _ _ h1 (fun _ => (nomatch ·)) (fun _ => (nomatch ·)), k _ _ h2 (fun _ => (nomatch ·)) (fun _ => (nomatch ·)), k _ _ h3 codeO_ne (fun _ => (nomatch ·))⟩, r.to k⟩
  | [], _ :: _, h => h.elim
  | _ :: _, [], h => h.elim
theorem Its.snoc {q : Str} {cl0 : List (Str × Addr)} {H : Hp} {x : V} {l : Expr} {due : Str} (a : ∃ t f c' : Addr, x = .ref t ∧ H t = some (.tup [.ref f, .str due]) ∧ H f = some (LamO f ⟨"<lambda>", q, lamPar l, [], lamSc l, cloFrom cl0 (lamSc l).names [], c'⟩ (lamBody l)) ∧ H c' = some (CodeO c' q)) : ∀ {vs : List V} {ls : List (Expr × Str)}, Its q cl0 H vs ls → Its q cl0 H (vs ++ [x]) (ls ++ [(l, due)])
  | [], [], _ => ⟨a, trivial⟩
  | _ :: _, _ :: _, h => ⟨h.1, h.2.snoc a⟩
  | [], _ :: _, h => h.elim
  | _ :: _, [], h => h.elim
theorem Its.calls {P : Program} {w : World} {K : Frag} {mg : Str → Option Value} {base : Heap} {c : ErrC} {p : Addr} {q : Str} {cl0 : List (Str × Addr)} {H : Hp} {fr0 : List Str} {vals0 : List V} {cs : Cs} (ft : Fits cl0 fr0 cs vals0) (n : ∀ p ∈ cs, H p.1 = none) (hD : DiceAt H p) :
    ∀ {vs : List V} {ls : List (Expr × Str)}, Its q cl0 H vs ls → (∀ x ∈ ls, LamTell P w K mg base c p fr0 vals0 H q x.1 x.2 ∧ PyData.canLay0 (.str x.2) = true) → Calls P w K mg base c p (onn cs H) vs
  | [], [], _, _ => fun _ h => (List.not_mem_nil h).elim
  | _ :: _, (l, due) :: ls, ⟨⟨t, f, c', e, h1, h2, h3⟩, r⟩, k => fun y hy => by
    rcases List.mem_cons.mp hy with rfl | z
    · obtain ⟨tl, lay⟩ := k _ (.head _)
      exact ⟨t, f, due, e, by rw [onn_out fun z => by obtain ⟨p, hp, rfl⟩ := List.mem_map.mp z; rw [n p hp] at h1; cases h1]; exact h1, tl cl0 cs f c' ft n hD h2 h3, lay⟩
    · exact r.calls ft n hD (fun x hx => k x (.tail _ hx)) y z
  | [], _ :: _, h, _ => h.elim
  | _ :: _, [], h, _ => h.elim
theorem ps_imp {X : Cx} {st : Stmt} {t t' : TS} (h : PS X st t) (i : ∀ D σ H, t' D σ H → t D σ H) : PS X st t' := ⟨fun pins s σ H D I q => h.run pins s σ H D I (i D σ H q)⟩
/-- the lambda of a statement that adds a call -/
def callLam : Stmt → Expr
  | .Expr (.Call _ [.Tuple (l :: _) _ _] _ _) _ => l
  | .Assign _ (.List [.Tuple (l :: _) _ _] _) _ => l
  | _ => .Constant .none 0 ⟨0, 0, 0, 0⟩
/-- another call is put behind: the reading -/
def tAppLam (q : Str) (cl0 : List (Str × Addr)) (T : List (Addr × Str)) (i : Nat) (l : Expr) (td : TE) : TS := fun D σ H => ∃ (a : Addr) (vs : List V) (ls : List (Expr × Str)) (due : Str), σ[i]? = some (some (.ref a)) ∧ H a = some (.lst vs) ∧ vs.length ≤ 1000 ∧ Its q cl0 H vs ls ∧ Tabs T H ∧
  (∀ H1 Q, ExtN H H1 → Q (.str due) H1 → td σ H1 Q) ∧ ∀ H' x, H' a = some (.lst (vs ++ [x])) → Its q cl0 H' (vs ++ [x]) (ls ++ [(l, due)]) → Tabs T H' → (∀ b o, H b = some o → b ≠ a → (∀ ps, o ≠ .tbl ps) → H' b = some o) → (∀ b, H' b = none → H b = none) → D.nx σ H'
theorem ps_app {X : Cx} {T : List (Addr × Str)} {c P : Addr} {st : Stmt} {due : Expr} {td : TE} {i : Nat} {x : Str} {x1 : _} {p1 p2 p3 p4 p5 pl : Pos} (hst : st = .Expr (.Call (.Attribute (.Name x p1) "append" p2) [.Tuple [.Lambda (lamPar (callLam st)) (lamBody (callLam st)) (lamSc (callLam st)) pl, due] x1 p3] [] p4) p5)
    (TB : TabB X.base X.mg c P) (code : X.env.code = .ref c) (mem : (P, X.env.qual ++ "<lambda>") ∈ T) (uniq : ∀ p ∈ T, p.1 = P → p.2 = X.env.qual ++ "<lambda>") (plain : defaultsOf (lamPar (callLam st)) X.env = ([], []))
    (taken : X.Ok → ∀ y ∈ (lamSc (callLam st)).names, y.2 = .free → ∃ c, X.env.cells.lookup y.1 = some c)
    (mk : PE X (.Lambda (lamPar (callLam st)) (lamBody (callLam st)) (lamSc (callLam st)) pl) (tLamV X T (lamPar (callLam st)) (lamBody (callLam st)) (lamSc (callLam st))) → PE X (.Call (.Attribute (.Name x p1) "append" p2) [.Tuple [.Lambda (lamPar (callLam st)) (lamBody (callLam st)) (lamSc (callLam st)) pl, due] x1 p3] [] p4) (tBM X.K "list" rAppend (tVar i) (tCons (tTup (tCons (tLamV X T (lamPar (callLam st)) (lamBody (callLam st)) (lamSc (callLam st))) (tCons td tNil))) tNil)))
    (hs : swapsWith (.Call (.Attribute (.Name x p1) "append" p2) [.Tuple [.Lambda (lamPar (callLam st)) (lamBody (callLam st)) (lamSc (callLam st)) pl, due] x1 p3] [] p4) none p5.line X.env = pure false) : PS X st (tAppLam (X.env.qual ++ "<lambda>") X.env.cells T i (callLam st) td) := by
  have base := ps_expr (mk (pe_lamV TB code mem uniq plain taken)) hs
  rw [← hst] at base
  refine ps_imp base fun D σ H ⟨a, vs, ls, dw, e, hl, few, its, tabs, dueR, q⟩ => ?_
  refine ⟨_, e, .inl ⟨rfl, _, SqL.of hl⟩, tabs, fun f c' H1 nf gr hf hc => ?_⟩
  refine dueR H1 _ gr.1 ⟨by rw [sizeLine_eq]; simp only [List.length_cons, List.length_nil]; omega, fun t ht => ?_⟩
  have s2 := same_upd (o := .tup [.ref f, .str dw]) ht
  have hl1 := gr.1 _ _ hl fun _ => (nomatch ·)
  have nt : a ≠ t := fun z => by rw [← z, hl1] at ht; cases ht
  refine ⟨a, _, _, rfl, rfl, s2 _ _ hl1, by rw [sizeLine_eq]; omega, ?_⟩
  have k : ∀ b o, upd H1 t (.tup [.ref f, .str dw]) b = some o → (∀ xs, o ≠ .lst xs) → upd (upd H1 t (.tup [.ref f, .str dw])) a (.lst (vs ++ [.ref t])) b = some o := fun b o e n => by
    rw [upd_ne fun z => by rw [z, s2 _ _ hl1] at e; exact n _ (Option.some.inj e).symm]
    exact e
  refine q _ (.ref t) upd_same (Its.snoc ⟨t, f, c', rfl, k _ _ upd_same fun _ => (nomatch ·), k _ _ (s2 _ _ hf) fun _ => (nomatch ·), k _ _ (s2 _ _ hc) fun _ => (nomatch ·)⟩ (its.to fun b o e n1 n2 => k _ _ (s2 _ _ (gr.1 _ _ e n1)) n2)) ?_ (fun b o e nb nt => ?_) fun b n => ?_
  · intro r hr
    obtain ⟨ps, h1, h2, h3⟩ := gr.2.1 r hr
    refine ⟨ps, k _ _ (s2 _ _ h1) fun _ => (nomatch ·), h2, fun pos cv hcv => ?_⟩
    obtain ⟨d, e1, e2⟩ := h3 pos cv hcv
    exact ⟨d, e1, k _ _ (s2 _ _ e2) fun _ => (nomatch ·)⟩
  · rw [upd_ne nb]
    exact s2 _ _ (gr.1 _ _ e nt)
  · have n1 : b ≠ a := fun z => by rw [z, upd_same] at n; cases n
    rw [upd_ne n1] at n
    have n2 : b ≠ t := fun z => by rw [z, upd_same] at n; cases n
    rw [upd_ne n2] at n
    exact gr.2.2 b n
end WK
set_option Elab.async false
set_option linter.all false
set_option maxRecDepth 100000
set_option maxHeartbeats 8000000
namespace WK
open PySem L2 PyProof.Rows LCX K1 FV LamX NdefX RM
open TX (sg sigs)
open PySem.W (Frag kitOne)
abbrev sMC : Stmt := top 98
abbrev sBC2 : Stmt := top 99
abbrev sSC : Stmt := top 100
abbrev sRt : Stmt := top 101
abbrev sLw : Stmt := top 102
def nthS (s : Stmt) (k : Nat) : Stmt := (defBody s).getD k (.Pass ⟨0, 0, 0, 0⟩)
abbrev qMC : Str := (envOfC "_law_made_calls" (defScope sMC) 0 0 .none).qual ++ "<lambda>"
abbrev qBC : Str := (envOfC "_law_box_calls" (defScope sBC2) 0 0 .none).qual ++ "<lambda>"
abbrev qSC : Str := (envOfC "_law_sight_calls" (defScope sSC) 0 0 .none).qual ++ "<lambda>"
abbrev qRt : Str := (envOfC "_law_right" (defScope sRt) 0 0 .none).qual ++ "<lambda>"
/-- a method of the class, as calls find it -/
def MetX (P : Program) (w : World) (K : Frag) (mg : Str → Option Value) (base : Heap) (C : Addr) (mc : Value) (m : Str) (k : Nat) (sp : Sp) : Prop := ∃ p g, ClX.CMet K C mc m p g ∧ FnR P w K mg base (L2.CX P w) k g (fun vs H Q E => sp (vs ++ []) H Q E)
/-- what the program's own text gives the calls -/
structure Lib (P : Program) (w : World) (K : Frag) (mg : Str → Option Value) (base : Heap) (c : ErrC) (C CB : Addr) (mc : Value) : Prop where
  rd : ClX.CRead K CB mc
  gB : mg "Box" = some (.ref CB)
  cl : Cls K CB
  win : MetX P w K mg base CB mc "window" 4 (spCM2 K CB c.O c.N 0 4)
  heads : MetX P w K mg base CB mc "heads" 4 (spCM2 K CB c.O c.N 0 4)
  pieces : MetX P w K mg base CB mc "pieces" 4 (spCM2 K CB c.O c.N 0 3)
  caps : MetX P w K mg base CB mc "caps" 4 (spCM2 K CB c.O c.N 0 9)
  rests : MetX P w K mg base CB mc "rests" 4 (spCM2 K CB c.O c.N 1 12)
  clerk : MetX P w K mg base CB mc "clerk" 4 (spCM3 K CB c.O c.N)
  call : ∃ g, StX.CallO K CB g ∧ FnR P w K mg base (L2.CX P w) 3 g (fun vs H Q E => spBCx K CB c.W c.O (vs ++ []) H Q E)
  place : ∃ f fd v1, Meth K CB "place" f ∧ FnOk P w K mg base (L2.CX P w) 4 f fd ["self", "word", "start", "times"] (spPlx K CB c.W c.O c.N) ∧ KBn K fd ["self", "word", "start", "times"] 3 ["times"] (fun us ws => us ++ ws) (fun vs zs => vs ++ zs) ∧ RelV (.int 1) v1 ∧ L2.Binds K fd ["self", "word", "start", "times"] [v1]
  action : ∃ f fd, Meth K CB "action" f ∧ FnOk P w K mg base (L2.CX P w) 3 f fd ["self", "word"] (spBCx K CB c.W c.O) ∧ L2.Binds K fd ["self", "word"] []
  first : ∃ f fd, Meth K CB "first_word" f ∧ FnOk P w K mg base (L2.CX P w) 4 f fd ["self", "place"] (spFwx CB c.N) ∧ L2.Binds K fd ["self", "place"] []
  mach : ∃ f fd, Meth K CB "machine" f ∧ FnOk P w K mg base (L2.CX P w) 4 f fd ["self", "places"] (spBMx K CB c.O) ∧ L2.Binds K fd ["self", "places"] []
  and : ∃ g, PySem.W.findIn K (.ref CB) "__and__" = some (some (.ref g)) ∧ PySem.W.isFn K (.ref g) = true ∧ FnR P w K mg base (L2.CX P w) 3 g (fun vs H Q E => spBAx CB c.B c.O (vs ++ []) H Q E)
  sf : PySem.W.selfFirst K CB = true
  nor : PySem.W.findIn K (.ref CB) (dunderR "and") = some none
  sub : ∀ n ∈ tyNames, PySem.W.subIn K (.type n) (.ref CB) = some false
  init : ∃ f fd, Mk K CB f ∧ FnOk P w K mg base (L2.CX P w) 5 f fd ["self", "letters", "table"] (spBoxX K CB c.B) ∧ L2.Binds K fd ["self", "letters", "table"] []
  made : ∃ f fd, Mk K CB f ∧ FnOk P w K mg base CX0 5 f fd ["self", "letters", "table"] (spBoxT CB) ∧ L2.Binds K fd ["self", "letters", "table"] []
  places : Has P w K mg base (L2.CX P w) 4 "places" ["machine", "box"] (spPl1 C CB c.M c.B c.O)
  wordTo : Has P w K mg base (L2.CX P w) 4 "word_to" ["machine", "box", "place"] (spWt C CB c.M c.B c.O c.N)
  tells : Has P w K mg base (L2.CX P w) 5 "tells_apart" ["one", "other", "box"] (spAp C CB c.M c.B c.O)
  alike : Has P w K mg base (L2.CX P w) 4 "alike_pair" ["one", "other", "box"] (spAp C CB c.M c.B c.O)
  isAlike : Has P w K mg base (L2.CX P w) 4 "is_alike_pair" ["one", "other", "box", "value"] (spApV C CB c.M c.B c.O)
  paper : Has P w K mg base (L2.CX P w) 5 "apart_paper" ["one", "other", "box"] (spAp C CB c.M c.B c.O)
  isPaper : Has P w K mg base (L2.CX P w) 4 "is_apart_paper" ["one", "other", "box", "value"] (spApV C CB c.M c.B c.O)
  seen : Has P w K mg base (L2.CX P w) 4 "is_seen" ["machine", "box", "word"] (spIsSn C CB c.M c.B c.W)
  guess : Has P w K mg base (L2.CX P w) 4 "guesses_of" ["box", "machines", "word"] (spGs K C CB c.M c.B c.W)
  groups : Has P w K mg base (L2.CX P w) 4 "box_groups" ["box", "machines"] (spBg K C CB c.M c.B c.O)
/-- a drawn value that is no set of letters -/
def OddLet (H : Hp) (v : V) : Prop := OV H v ∧ ∀ x, v = .str x → x.length ≤ 1000 ∧ letB x = false
theorem OddLet.bad {K : Frag} {H : Hp} {v : V} (h : OddLet H v) : BadLet K H v := (h.1.text (K := K)).imp (fun ⟨x, e⟩ => ⟨x, e, h.2 x e⟩) fun z => z
/-- a drawn value that is no number below B, from 0 on; its text -/
def OddNum (B : Int) (H : Hp) (v : V) (x : Str) : Prop := Shw H v x ∧ ∀ lo hi : Int, 0 ≤ lo → hi < B → numB v lo hi = false
theorem Shw.ov {H : Hp} {v : V} {x : Str} (h : Shw H v x) : OV H v := by
  cases h with
  | non => exact .non
  | int i => exact .int i
  | tru => exact .bl true
  | one => exact .str _
  | nul => exact .str _
  | tup h => exact .tup h
  | lst h => exact .lst h
  | dic h => exact .dic h
/-- what is at an object that is neither the dice, nor a table, nor known of a function -/
theorem Bx.at_ {p : Addr} {H H' : Hp} (b : Bx p H H') (d : DiceAt H p) {a : Addr} {o : HO} (e : H a = some o) (n1 : ∀ x y z : Int, o ≠ .lst [.int x, .int y, .int z]) (n2 : ∀ ps, o ≠ .tbl ps) (n3 : ∀ φ, o ≠ .ext φ) : H' a = some o := b _ _ e (d.off e n1) n2 n3
theorem Shw.bx {p : Addr} {H H' : Hp} {v : V} {x : Str} (h : Shw H v x) (b : Bx p H H') (d : DiceAt H p) : Shw H' v x := by
  cases h with
  | non => exact .non
  | int i h hl hc => exact .int i h hl hc
  | tru => exact .tru
  | one => exact .one
  | nul => exact .nul
  | tup h => exact .tup (b.at_ d h (fun _ _ _ => (nomatch ·)) (fun _ => (nomatch ·)) fun _ => (nomatch ·))
  | lst h => exact .lst (b.at_ d h (fun _ _ _ => (nomatch ·)) (fun _ => (nomatch ·)) fun _ => (nomatch ·))
  | dic h => exact .dic (b.at_ d h (fun _ _ _ => (nomatch ·)) (fun _ => (nomatch ·)) fun _ => (nomatch ·))
theorem OddNum.bx {p : Addr} {B : Int} {H H' : Hp} {v : V} {x : Str} (h : OddNum B H v x) (b : Bx p H H') (d : DiceAt H p) : OddNum B H' v x := ⟨h.1.bx b d, h.2⟩
/-- plain values that do not hold three numbers in a list -/
inductive OP (H : Hp) : V → Prop
  | non : OP H .non
  | int (i : Int) : OP H (.int i)
  | bl (b : Bool) : OP H (.bl b)
  | str (x : Str) : OP H (.str x)
  | tup {a : Addr} {xs : List V} (h : H a = some (.tup xs)) : OP H (.ref a)
  | lst {a : Addr} {xs : List V} (h : H a = some (.lst xs)) (n : ∀ x y z : Int, xs ≠ [.int x, .int y, .int z]) : OP H (.ref a)
  | dic {a : Addr} {xs : List (Key × V)} (h : H a = some (.dK xs)) : OP H (.ref a)
theorem OP.ov {H : Hp} {v : V} (h : OP H v) : OV H v := by
  cases h with
  | non => exact .non
  | int i => exact .int i
  | bl b => exact .bl b
  | str x => exact .str x
  | tup h => exact .tup h
  | lst h n => exact .lst h
  | dic h => exact .dic h
theorem OP.bx {p : Addr} {H H' : Hp} {v : V} (h : OP H v) (b : Bx p H H') (d : DiceAt H p) : OP H' v := by
  cases h with
  | non => exact .non
  | int i => exact .int i
  | bl b => exact .bl b
  | str x => exact .str x
  | tup h => exact .tup (b.at_ d h (fun _ _ _ => (nomatch ·)) (fun _ => (nomatch ·)) fun _ => (nomatch ·))
  | lst h n => exact .lst (b.at_ d h (fun x y z e => n x y z (HO.lst.inj e)) (fun _ => (nomatch ·)) fun _ => (nomatch ·)) n
  | dic h => exact .dic (b.at_ d h (fun _ _ _ => (nomatch ·)) (fun _ => (nomatch ·)) fun _ => (nomatch ·))
def OddL (H : Hp) (v : V) : Prop := OP H v ∧ ∀ x, v = .str x → x.length ≤ 1000 ∧ letB x = false
theorem OddL.bx {p : Addr} {H H' : Hp} {v : V} (h : OddL H v) (b : Bx p H H') (d : DiceAt H p) : OddL H' v := ⟨h.1.bx b d, h.2⟩
theorem OddL.bad {K : Frag} {H : Hp} {v : V} (h : OddL H v) : BadLet K H v := OddLet.bad ⟨h.1.ov, h.2⟩
theorem good_of {x : Str} (h : (decide (x.length ≤ 1000) && letB x) = true) : GoodLet (.str x) := by
  obtain ⟨h1, h2⟩ := Bool.and_eq_true_iff.mp h
  exact ⟨x, rfl, of_decide_eq_true h1, h2⟩
section
variable {P : Program} {w : World} {K : Frag} {mg : Str → Option Value} {base : Heap} {c : ErrC} {C CB : Addr} {mc : Value} {p : Addr}
/-- an error is wished for whatever was made -/
abbrev Wish (c : ErrC) (H : Hp) (wd : Str) (E : XK) : Prop := ∀ cls d H2, Same H H2 → ErrW c H2 cls d wd → E cls d H2
theorem wish_o {H : Hp} {E : XK} (e : Wish c H "operation" E) : ErrS c.O H E := fun _ s => e _ _ _ s .o
theorem wish_w {H : Hp} {E : XK} (e : Wish c H "word" E) : ErrS c.W H E := fun _ s => e _ _ _ s .w
theorem wish_b {H : Hp} {E : XK} (e : Wish c H "box" E) : ErrS c.B H E := fun _ s => e _ _ _ s .b
theorem wish_m {H : Hp} {E : XK} (e : Wish c H "machine" E) : ErrS c.M H E := fun _ s => e _ _ _ s .m
theorem wish_n {H : Hp} {E : XK} {v : V} {x : Str} (e : Wish c H ("number " ++ x) E) (h : Shw H v x) : ErrN c.N v H E := fun d H' n s hd => e _ _ _ s (.n hd (h.to fun a o _ z => s _ _ z))
theorem wish_i {H : Hp} {E : XK} {i : Int} {wd : Str} (e : Wish c H wd E) (h : wd = "number " ++ ((toString i : String) : Str) ∧ i.natAbs.log2 < 1920 ∧ ((toString i : String) : Str).length ≤ 1000 ∧ PyData.canLay0 (.str ((toString i : String) : Str)) = true) : ErrN c.N (.int i) H E := by
  obtain ⟨rfl, h1, h2, h3⟩ := h
  exact wish_n e (.int i h1 h2 h3)
theorem tell_MC2 (Lb : Lib P w K mg base c C CB mc) {H' : Hp} {vL vS : V} {x : Str} (hD : DiceAt H' p) (oL : OddL H' vL) (oS : OddNum 1000000000000 H' vS x) : LamTell P w K mg base c p ["_law_size", "_law_letters"] [vS, vL] H' qMC (callLam (nthS sMC 2)) "operation" := by
  refine lam_tell (fr := ["_law_letters", "_law_size"]) (vals := [vL, vS]) [1, 0] (nscope_by (by decide +kernel)) (by decide +kernel) rfl rfl (fun _ _ _ _ _ => rfl) (fun cl c' f A outer s H E hr b e => ?_)
  · obtain ⟨pm, gm, hc, hf⟩ := Lb.win
    refine ⟨_, ClX.pe_cmeth (E := E) (pe_glob rfl Lb.gB (show RelV (.ref CB) (.ref CB) from rfl)) Lb.rd hc hf (hr.mono (by decide)) (passes_call (takes_of rfl rfl rfl rfl) (fun _ _ _ _ h => h)) (pa_cons (pv 0) (pa_cons (pv 1) pa_nil)), fun Q => ?_⟩
    exact ⟨rfl, _, rfl, _, rfl, _, _, rfl, .inl ⟨(oL.bx b hD).bad, wish_o e⟩⟩
theorem tell_MC3 (Lb : Lib P w K mg base c C CB mc) {H' : Hp} {vL vS : V} {x : Str} (hD : DiceAt H' p) (oL : OddL H' vL) (oS : OddNum 1000000000000 H' vS x) : LamTell P w K mg base c p ["_law_size", "_law_letters"] [vS, vL] H' qMC (callLam (nthS sMC 3)) "number 5" := by
  refine lam_tell (fr := []) (vals := []) [] (nscope_by (by decide +kernel)) (by decide +kernel) rfl rfl (fun _ _ _ _ _ => rfl) (fun cl c' f A outer s H E hr b e => ?_)
  · obtain ⟨pm, gm, hc, hf⟩ := Lb.win
    refine ⟨_, ClX.pe_cmeth (E := E) (pe_glob rfl Lb.gB (show RelV (.ref CB) (.ref CB) from rfl)) Lb.rd hc hf (hr.mono (by decide)) (passes_call (takes_of rfl rfl rfl rfl) (fun _ _ _ _ h => h)) (pa_cons pe_str (pa_cons pe_int pa_nil)), fun Q => ?_⟩
    exact ⟨rfl, _, _, rfl, .inr ⟨good_of (by decide +kernel), .int 5, by decide +kernel, wish_i e (by decide +kernel)⟩⟩
theorem tell_MC4 (Lb : Lib P w K mg base c C CB mc) {H' : Hp} {vL vS : V} {x : Str} (hD : DiceAt H' p) (oL : OddL H' vL) (oS : OddNum 1000000000000 H' vS x) : LamTell P w K mg base c p ["_law_size", "_law_letters"] [vS, vL] H' qMC (callLam (nthS sMC 4)) ("number " ++ x) := by
  refine lam_tell (fr := ["_law_size"]) (vals := [vS]) [0] (nscope_by (by decide +kernel)) (by decide +kernel) rfl rfl (fun _ _ _ _ _ => rfl) (fun cl c' f A outer s H E hr b e => ?_)
  · obtain ⟨pm, gm, hc, hf⟩ := Lb.win
    refine ⟨_, ClX.pe_cmeth (E := E) (pe_glob rfl Lb.gB (show RelV (.ref CB) (.ref CB) from rfl)) Lb.rd hc hf (hr.mono (by decide)) (passes_call (takes_of rfl rfl rfl rfl) (fun _ _ _ _ h => h)) (pa_cons pe_str (pa_cons (pv 0) pa_nil)), fun Q => ?_⟩
    exact ⟨rfl, _, rfl, _, _, rfl, .inr ⟨good_of (by decide +kernel), (oS.bx b hD).1.ov, oS.2 _ _ (by decide) (by decide), wish_n e (oS.bx b hD).1⟩⟩
theorem tell_MC5 (Lb : Lib P w K mg base c C CB mc) {H' : Hp} {vL vS : V} {x : Str} (hD : DiceAt H' p) (oL : OddL H' vL) (oS : OddNum 1000000000000 H' vS x) : LamTell P w K mg base c p ["_law_size", "_law_letters"] [vS, vL] H' qMC (callLam (nthS sMC 5)) "operation" := by
  refine lam_tell (fr := ["_law_letters", "_law_size"]) (vals := [vL, vS]) [1, 0] (nscope_by (by decide +kernel)) (by decide +kernel) rfl rfl (fun _ _ _ _ _ => rfl) (fun cl c' f A outer s H E hr b e => ?_)
  · obtain ⟨pm, gm, hc, hf⟩ := Lb.heads
    refine ⟨_, ClX.pe_cmeth (E := E) (pe_glob rfl Lb.gB (show RelV (.ref CB) (.ref CB) from rfl)) Lb.rd hc hf (hr.mono (by decide)) (passes_call (takes_of rfl rfl rfl rfl) (fun _ _ _ _ h => h)) (pa_cons (pv 0) (pa_cons (pv 1) pa_nil)), fun Q => ?_⟩
    exact ⟨rfl, _, rfl, _, rfl, _, _, rfl, .inl ⟨(oL.bx b hD).bad, wish_o e⟩⟩
theorem tell_MC6 (Lb : Lib P w K mg base c C CB mc) {H' : Hp} {vL vS : V} {x : Str} (hD : DiceAt H' p) (oL : OddL H' vL) (oS : OddNum 1000000000000 H' vS x) : LamTell P w K mg base c p ["_law_size", "_law_letters"] [vS, vL] H' qMC (callLam (nthS sMC 6)) ("number " ++ x) := by
  refine lam_tell (fr := ["_law_size"]) (vals := [vS]) [0] (nscope_by (by decide +kernel)) (by decide +kernel) rfl rfl (fun _ _ _ _ _ => rfl) (fun cl c' f A outer s H E hr b e => ?_)
  · obtain ⟨pm, gm, hc, hf⟩ := Lb.heads
    refine ⟨_, ClX.pe_cmeth (E := E) (pe_glob rfl Lb.gB (show RelV (.ref CB) (.ref CB) from rfl)) Lb.rd hc hf (hr.mono (by decide)) (passes_call (takes_of rfl rfl rfl rfl) (fun _ _ _ _ h => h)) (pa_cons pe_str (pa_cons (pv 0) pa_nil)), fun Q => ?_⟩
    exact ⟨rfl, _, rfl, _, _, rfl, .inr ⟨good_of (by decide +kernel), (oS.bx b hD).1.ov, oS.2 _ _ (by decide) (by decide), wish_n e (oS.bx b hD).1⟩⟩
theorem tell_MC7 (Lb : Lib P w K mg base c C CB mc) {H' : Hp} {vL vS : V} {x : Str} (hD : DiceAt H' p) (oL : OddL H' vL) (oS : OddNum 1000000000000 H' vS x) : LamTell P w K mg base c p ["_law_size", "_law_letters"] [vS, vL] H' qMC (callLam (nthS sMC 7)) "number 4" := by
  refine lam_tell (fr := []) (vals := []) [] (nscope_by (by decide +kernel)) (by decide +kernel) rfl rfl (fun _ _ _ _ _ => rfl) (fun cl c' f A outer s H E hr b e => ?_)
  · obtain ⟨pm, gm, hc, hf⟩ := Lb.pieces
    refine ⟨_, ClX.pe_cmeth (E := E) (pe_glob rfl Lb.gB (show RelV (.ref CB) (.ref CB) from rfl)) Lb.rd hc hf (hr.mono (by decide)) (passes_call (takes_of rfl rfl rfl rfl) (fun _ _ _ _ h => h)) (pa_cons pe_str (pa_cons pe_int pa_nil)), fun Q => ?_⟩
    exact ⟨rfl, _, _, rfl, .inr ⟨good_of (by decide +kernel), .int 4, by decide +kernel, wish_i e (by decide +kernel)⟩⟩
theorem tell_MC8 (Lb : Lib P w K mg base c C CB mc) {H' : Hp} {vL vS : V} {x : Str} (hD : DiceAt H' p) (oL : OddL H' vL) (oS : OddNum 1000000000000 H' vS x) : LamTell P w K mg base c p ["_law_size", "_law_letters"] [vS, vL] H' qMC (callLam (nthS sMC 8)) "operation" := by
  refine lam_tell (fr := ["_law_letters"]) (vals := [vL]) [1] (nscope_by (by decide +kernel)) (by decide +kernel) rfl rfl (fun _ _ _ _ _ => rfl) (fun cl c' f A outer s H E hr b e => ?_)
  · obtain ⟨pm, gm, hc, hf⟩ := Lb.pieces
    refine ⟨_, ClX.pe_cmeth (E := E) (pe_glob rfl Lb.gB (show RelV (.ref CB) (.ref CB) from rfl)) Lb.rd hc hf (hr.mono (by decide)) (passes_call (takes_of rfl rfl rfl rfl) (fun _ _ _ _ h => h)) (pa_cons (pv 0) (pa_cons pe_int pa_nil)), fun Q => ?_⟩
    exact ⟨rfl, _, rfl, _, _, rfl, .inl ⟨(oL.bx b hD).bad, wish_o e⟩⟩
theorem tell_MC9 (Lb : Lib P w K mg base c C CB mc) {H' : Hp} {vL vS : V} {x : Str} (hD : DiceAt H' p) (oL : OddL H' vL) (oS : OddNum 1000000000000 H' vS x) : LamTell P w K mg base c p ["_law_size", "_law_letters"] [vS, vL] H' qMC (callLam (nthS sMC 9)) "number 10" := by
  refine lam_tell (fr := []) (vals := []) [] (nscope_by (by decide +kernel)) (by decide +kernel) rfl rfl (fun _ _ _ _ _ => rfl) (fun cl c' f A outer s H E hr b e => ?_)
  · obtain ⟨pm, gm, hc, hf⟩ := Lb.caps
    refine ⟨_, ClX.pe_cmeth (E := E) (pe_glob rfl Lb.gB (show RelV (.ref CB) (.ref CB) from rfl)) Lb.rd hc hf (hr.mono (by decide)) (passes_call (takes_of rfl rfl rfl rfl) (fun _ _ _ _ h => h)) (pa_cons pe_str (pa_cons pe_int pa_nil)), fun Q => ?_⟩
    exact ⟨rfl, _, _, rfl, .inr ⟨good_of (by decide +kernel), .int 10, by decide +kernel, wish_i e (by decide +kernel)⟩⟩
theorem tell_MC10 (Lb : Lib P w K mg base c C CB mc) {H' : Hp} {vL vS : V} {x : Str} (hD : DiceAt H' p) (oL : OddL H' vL) (oS : OddNum 1000000000000 H' vS x) : LamTell P w K mg base c p ["_law_size", "_law_letters"] [vS, vL] H' qMC (callLam (nthS sMC 10)) ("number " ++ x) := by
  refine lam_tell (fr := ["_law_size"]) (vals := [vS]) [0] (nscope_by (by decide +kernel)) (by decide +kernel) rfl rfl (fun _ _ _ _ _ => rfl) (fun cl c' f A outer s H E hr b e => ?_)
  · obtain ⟨pm, gm, hc, hf⟩ := Lb.caps
    refine ⟨_, ClX.pe_cmeth (E := E) (pe_glob rfl Lb.gB (show RelV (.ref CB) (.ref CB) from rfl)) Lb.rd hc hf (hr.mono (by decide)) (passes_call (takes_of rfl rfl rfl rfl) (fun _ _ _ _ h => h)) (pa_cons pe_str (pa_cons (pv 0) pa_nil)), fun Q => ?_⟩
    exact ⟨rfl, _, rfl, _, _, rfl, .inr ⟨good_of (by decide +kernel), (oS.bx b hD).1.ov, oS.2 _ _ (by decide) (by decide), wish_n e (oS.bx b hD).1⟩⟩
theorem tell_MC11 (Lb : Lib P w K mg base c C CB mc) {H' : Hp} {vL vS : V} {x : Str} (hD : DiceAt H' p) (oL : OddL H' vL) (oS : OddNum 1000000000000 H' vS x) : LamTell P w K mg base c p ["_law_size", "_law_letters"] [vS, vL] H' qMC (callLam (nthS sMC 11)) "number 0" := by
  refine lam_tell (fr := []) (vals := []) [] (nscope_by (by decide +kernel)) (by decide +kernel) rfl rfl (fun _ _ _ _ _ => rfl) (fun cl c' f A outer s H E hr b e => ?_)
  · obtain ⟨pm, gm, hc, hf⟩ := Lb.rests
    refine ⟨_, ClX.pe_cmeth (E := E) (pe_glob rfl Lb.gB (show RelV (.ref CB) (.ref CB) from rfl)) Lb.rd hc hf (hr.mono (by decide)) (passes_call (takes_of rfl rfl rfl rfl) (fun _ _ _ _ h => h)) (pa_cons pe_str (pa_cons pe_int pa_nil)), fun Q => ?_⟩
    exact ⟨rfl, _, _, rfl, .inr ⟨good_of (by decide +kernel), .int 0, by decide +kernel, wish_i e (by decide +kernel)⟩⟩
theorem tell_MC12 (Lb : Lib P w K mg base c C CB mc) {H' : Hp} {vL vS : V} {x : Str} (hD : DiceAt H' p) (oL : OddL H' vL) (oS : OddNum 1000000000000 H' vS x) : LamTell P w K mg base c p ["_law_size", "_law_letters"] [vS, vL] H' qMC (callLam (nthS sMC 12)) "number 13" := by
  refine lam_tell (fr := []) (vals := []) [] (nscope_by (by decide +kernel)) (by decide +kernel) rfl rfl (fun _ _ _ _ _ => rfl) (fun cl c' f A outer s H E hr b e => ?_)
  · obtain ⟨pm, gm, hc, hf⟩ := Lb.rests
    refine ⟨_, ClX.pe_cmeth (E := E) (pe_glob rfl Lb.gB (show RelV (.ref CB) (.ref CB) from rfl)) Lb.rd hc hf (hr.mono (by decide)) (passes_call (takes_of rfl rfl rfl rfl) (fun _ _ _ _ h => h)) (pa_cons pe_str (pa_cons pe_int pa_nil)), fun Q => ?_⟩
    exact ⟨rfl, _, _, rfl, .inr ⟨good_of (by decide +kernel), .int 13, by decide +kernel, wish_i e (by decide +kernel)⟩⟩
theorem tell_MC13 (Lb : Lib P w K mg base c C CB mc) {H' : Hp} {vL vS : V} {x : Str} (hD : DiceAt H' p) (oL : OddL H' vL) (oS : OddNum 1000000000000 H' vS x) : LamTell P w K mg base c p ["_law_size", "_law_letters"] [vS, vL] H' qMC (callLam (nthS sMC 13)) "operation" := by
  refine lam_tell (fr := ["_law_letters", "_law_size"]) (vals := [vL, vS]) [1, 0] (nscope_by (by decide +kernel)) (by decide +kernel) rfl rfl (fun _ _ _ _ _ => rfl) (fun cl c' f A outer s H E hr b e => ?_)
  · obtain ⟨pm, gm, hc, hf⟩ := Lb.clerk
    refine ⟨_, ClX.pe_cmeth (E := E) (pe_glob rfl Lb.gB (show RelV (.ref CB) (.ref CB) from rfl)) Lb.rd hc hf (hr.mono (by decide)) (passes_call (takes_of rfl rfl rfl rfl) (fun _ _ _ _ h => h)) (pa_cons (pv 0) (pa_cons (pv 1) (pa_cons (pv 1) pa_nil))), fun Q => ?_⟩
    exact ⟨rfl, _, rfl, _, rfl, _, rfl, _, _, _, rfl, .inl ⟨(oL.bx b hD).bad, wish_o e⟩⟩
theorem tell_MC14 (Lb : Lib P w K mg base c C CB mc) {H' : Hp} {vL vS : V} {x : Str} (hD : DiceAt H' p) (oL : OddL H' vL) (oS : OddNum 1000000000000 H' vS x) : LamTell P w K mg base c p ["_law_size", "_law_letters"] [vS, vL] H' qMC (callLam (nthS sMC 14)) ("number " ++ x) := by
  refine lam_tell (fr := ["_law_size"]) (vals := [vS]) [0] (nscope_by (by decide +kernel)) (by decide +kernel) rfl rfl (fun _ _ _ _ _ => rfl) (fun cl c' f A outer s H E hr b e => ?_)
  · obtain ⟨pm, gm, hc, hf⟩ := Lb.clerk
    refine ⟨_, ClX.pe_cmeth (E := E) (pe_glob rfl Lb.gB (show RelV (.ref CB) (.ref CB) from rfl)) Lb.rd hc hf (hr.mono (by decide)) (passes_call (takes_of rfl rfl rfl rfl) (fun _ _ _ _ h => h)) (pa_cons pe_str (pa_cons (pv 0) (pa_cons pe_int pa_nil))), fun Q => ?_⟩
    exact ⟨rfl, _, rfl, _, _, _, rfl, .inr ⟨good_of (by decide +kernel), (oS.bx b hD).1.ov, .inl ⟨oS.2 _ _ (by decide) (by decide), wish_n e (oS.bx b hD).1⟩⟩⟩
theorem tell_MC15 (Lb : Lib P w K mg base c C CB mc) {H' : Hp} {vL vS : V} {x : Str} (hD : DiceAt H' p) (oL : OddL H' vL) (oS : OddNum 1000000000000 H' vS x) : LamTell P w K mg base c p ["_law_size", "_law_letters"] [vS, vL] H' qMC (callLam (nthS sMC 15)) "number 13" := by
  refine lam_tell (fr := []) (vals := []) [] (nscope_by (by decide +kernel)) (by decide +kernel) rfl rfl (fun _ _ _ _ _ => rfl) (fun cl c' f A outer s H E hr b e => ?_)
  · obtain ⟨pm, gm, hc, hf⟩ := Lb.clerk
    refine ⟨_, ClX.pe_cmeth (E := E) (pe_glob rfl Lb.gB (show RelV (.ref CB) (.ref CB) from rfl)) Lb.rd hc hf (hr.mono (by decide)) (passes_call (takes_of rfl rfl rfl rfl) (fun _ _ _ _ h => h)) (pa_cons pe_str (pa_cons pe_int (pa_cons pe_int pa_nil))), fun Q => ?_⟩
    exact ⟨rfl, _, _, _, rfl, .inr ⟨good_of (by decide +kernel), .int 9, .inr ⟨by decide +kernel, .int 13, by decide +kernel, wish_i e (by decide +kernel)⟩⟩⟩
end
end WK
set_option Elab.async false
set_option linter.all false
set_option maxRecDepth 100000
set_option maxHeartbeats 8000000
namespace OWN
open PySem PySem.Spec PyProof.Rows L2
theorem beside_of {K : PySem.W.Frag} {C : Addr} {nm n : String} {f r : Option Value} (hf : typeLookup (.type n) (dunder nm) = pure f) (hr : typeLookup (.type n) (dunderR nm) = pure r) (sub : PySem.W.subIn K (.type n) (.ref C) = some false) : Beside K C nm n :=
  ⟨⟨_, _, by simp only [fillsNumberSlot, hf, hr, pure_bind] <;> rfl, hr⟩, sub⟩
def rBinS (C : Addr) (sp : Sp) (E : XK) : R2 := fun x y H Q => ∃ a dx fs b dy gs, x = .ref a ∧ y = .ref b ∧ H a = some (.ins C dx fs) ∧ H b = some (.ins C dy gs) ∧ sp [x, y] H (fun _ _ => False) E
theorem op_binS {X : Cx} {CX : CXT} {C g : Addr} {k : Nat} {sp : Sp} {E : XK} {op : Operator} (hs : PySem.W.findIn X.K (.ref C) (PySem.dunder op.info.2) = some (some (.ref g))) (hf : PySem.W.isFn X.K (.ref g) = true) (hc : PySem.W.selfFirst X.K C = true)
    (F : FnR X.prog X.w X.K X.mg X.base CX k g sp) (hr : Room k X.A) (hx : Passes CX X E) : OpR X (binaryOp op) (rBinS C sp E) := by
  intro pins s σ H x y v u Q I rx ry h0
  obtain ⟨a, dx, fs, b, dy, gs, rfl, rfl, ha, hb, q⟩ := h0
  obtain rfl : v = .ref a := rx
  obtain rfl : u = .ref b := ry
  obtain ⟨od, J⟩ := inst_at I ha
  obtain ⟨od', J'⟩ := inst_at I hb
  obtain ⟨m, hF⟩ := I.fr
  refine PySem.W.binop_K hF I.ok.mod.kin J J'.type hc hs hf ?_
  refine wpAny_mono (wpAny_call (run_fnR (us := [.ref a, .ref b]) (vs := [.ref a, .ref b]) F hr hx I (.cons rfl (.cons rfl .nil)) q)) (fun w s' z => ?_) fun _ _ x => x
  exact (let ⟨_, _, _, _, z⟩ := z; z : False).elim
end OWN
namespace WK
open PySem L2 PyProof.Rows LCX K1 FV LamX NdefX RM
open TX (sg sigs)
open PySem.W (Frag kitOne)
theorem beside_and {K : Frag} {C : Addr} (sub : ∀ n ∈ tyNames, PySem.W.subIn K (.type n) (.ref C) = some false) : ∀ n ∈ tyNames, OWN.Beside K C "and" n := by
  intro n hn
  have s := sub n hn
  simp only [List.mem_cons, List.not_mem_nil, or_false] at hn
  rcases hn with rfl | rfl | rfl | rfl | rfl | rfl | rfl
  · exact OWN.beside_of (f := none) (r := none) (by rw [typeLookup_type, builtinLookup_eq_fast]; kernel_rfl) (by rw [typeLookup_type, builtinLookup_eq_fast]; kernel_rfl) s
  · exact OWN.beside_of (f := (some (.builtin "int.__and__"))) (r := (some (.builtin "int.__rand__"))) (by rw [typeLookup_type, builtinLookup_eq_fast]; kernel_rfl) (by rw [typeLookup_type, builtinLookup_eq_fast]; kernel_rfl) s
  · exact OWN.beside_of (f := (some (.builtin "bool.__and__"))) (r := (some (.builtin "bool.__rand__"))) (by rw [typeLookup_type, builtinLookup_eq_fast]; kernel_rfl) (by rw [typeLookup_type, builtinLookup_eq_fast]; kernel_rfl) s
  · exact OWN.beside_of (f := none) (r := none) (by rw [typeLookup_type, builtinLookup_eq_fast]; kernel_rfl) (by rw [typeLookup_type, builtinLookup_eq_fast]; kernel_rfl) s
  · exact OWN.beside_of (f := none) (r := none) (by rw [typeLookup_type, builtinLookup_eq_fast]; kernel_rfl) (by rw [typeLookup_type, builtinLookup_eq_fast]; kernel_rfl) s
  · exact OWN.beside_of (f := none) (r := none) (by rw [typeLookup_type, builtinLookup_eq_fast]; kernel_rfl) (by rw [typeLookup_type, builtinLookup_eq_fast]; kernel_rfl) s
  · exact OWN.beside_of (f := none) (r := none) (by rw [typeLookup_type, builtinLookup_eq_fast]; kernel_rfl) (by rw [typeLookup_type, builtinLookup_eq_fast]; kernel_rfl) s
theorem BoxAt.bx {C p : Addr} {H H' : Hp} {o : Addr} {L : W} {tb : List (List Int)} (h : BoxAt C H o L tb) (b : Bx p H H') (d : DiceAt H p) : BoxAt C H' o L tb := by
  obtain ⟨dx, r, h1, ts, h2, h3⟩ := h
  exact ⟨dx, r, b.at_ d h1 (fun _ _ _ => (nomatch ·)) (fun _ => (nomatch ·)) fun _ => (nomatch ·), ts, b.at_ d h2 (fun _ _ _ => (nomatch ·)) (fun _ => (nomatch ·)) fun _ => (nomatch ·), h3.to fun a _ r z => b.at_ d z (fun _ _ _ => (nomatch ·)) (fun _ => (nomatch ·)) fun _ => (nomatch ·)⟩
theorem MacAt.bx {C p : Addr} {H H' : Hp} {o : Addr} {L : W} {tb : List (List Int)} {es : List Int} (h : MacAt C H o L tb es) (b : Bx p H H') (d : DiceAt H p) : MacAt C H' o L tb es := by
  obtain ⟨dx, t, e, ts, h1, h2, h3, h4⟩ := h.ex
  exact ⟨dx, t, e, ts, b.at_ d h1 (fun _ _ _ => (nomatch ·)) (fun _ => (nomatch ·)) fun _ => (nomatch ·), b.at_ d h2 (fun _ _ _ => (nomatch ·)) (fun _ => (nomatch ·)) fun _ => (nomatch ·), h3.to fun a _ r z => b.at_ d z (fun _ _ _ => (nomatch ·)) (fun _ => (nomatch ·)) fun _ => (nomatch ·), b.at_ d h4 (fun _ _ _ => (nomatch ·)) (fun _ => (nomatch ·)) fun _ => (nomatch ·)⟩
/-- a drawn value that is no word -/
def OddW (H : Hp) (v : V) : Prop := OP H v ∧ ∀ x, v = .str x → wordB x = false
theorem OddW.bx {p : Addr} {H H' : Hp} {v : V} (h : OddW H v) (b : Bx p H H') (d : DiceAt H p) : OddW H' v := ⟨h.1.bx b d, h.2⟩
theorem OddW.badW {H : Hp} {v : V} (h : OddW H v) : BadW H v := by
  by_cases z : ∃ x, v = .str x
  · obtain ⟨x, e⟩ := z
    exact .inl ⟨x, e, h.2 x e⟩
  · exact .inr ⟨h.1.ov, fun x e => z ⟨x, e⟩⟩
/-- drawn places that are none -/
def OddSp (m : Int) (H : Hp) (v : V) : Prop := OP H v ∧ ∀ a xs, v = .ref a → H a = some (.tup xs) → xs.length ≤ 100 ∧ (∀ x ∈ xs, isNum x) ∧ ascV xs m = false
theorem OddSp.asc {K : Frag} {m : Int} {H : Hp} {v : V} (h : OddSp m H v) : BadAsc K H v m := by
  obtain ⟨o, k⟩ := h
  cases o with
  | non => exact .inl .non
  | int i => exact .inl (.int i)
  | bl b => exact .inl (.bl b)
  | str x => exact .inl (.str x)
  | tup e => exact .inr ⟨_, _, rfl, SqT.of e, k _ _ rfl e⟩
  | lst e n => exact .inl (.lst e)
  | dic e => exact .inl (.dic e)
theorem OddSp.bx {m : Int} {p : Addr} {H H' : Hp} {v : V} (h : OddSp m H v) (b : Bx p H H') (d : DiceAt H p) : OddSp m H' v := by
  refine ⟨h.1.bx b d, fun a xs e z => ?_⟩
  obtain ⟨o, k⟩ := h
  subst e
  cases o with
  | tup e =>
    have := b.at_ d e (fun _ _ _ => (nomatch ·)) (fun _ => (nomatch ·)) fun _ => (nomatch ·)
    rw [z] at this
    cases this
    exact k _ _ rfl e
  | lst e n =>
    have := b.at_ d e (fun x y z e => n x y z (HO.lst.inj e)) (fun _ => (nomatch ·)) fun _ => (nomatch ·)
    rw [z] at this
    cases this
  | dic e =>
    have := b.at_ d e (fun _ _ _ => (nomatch ·)) (fun _ => (nomatch ·)) fun _ => (nomatch ·)
    rw [z] at this
    cases this
theorem far_ne {L : W} (h : ovrB L [122] = false) : tx L ≠ tx [122] := fun z => by
  have e := congrArg (fun s : Str => s.cps.toList) z
  simp only [tx_list] at e
  rw [e] at h
  exact absurd h (by decide +kernel)
/-- a box far off -/
theorem z_rows {H : Hp} {t1 t2 : Addr} (h1 : H t1 = some (.tup [.int 0])) (h2 : H t2 = some (.tup [.ref t1])) : RowsAt H t2 [[0]] := ⟨[t1], h2, h1, trivial⟩
theorem let_z : Let [122] := ⟨by intro c hc; rw [List.mem_singleton.mp hc]; decide, List.pairwise_singleton _ _, by decide, by decide⟩
theorem tab_z : TabOk [[0]] ([122] : W).length 1 := ⟨rfl, fun r hr => by rw [List.mem_singleton.mp hr]; exact ⟨rfl, fun i hi => by rw [List.mem_singleton.mp hi]; decide⟩⟩
abbrev tZ (C : Addr) : TE := tMake C (spBoxT C) [] E0 (tCons (tC (.str "z")) (tCons (tTup (tCons (tTup (tCons (tC (.int 0)) tNil)) tNil)) tNil))
theorem z_read {C : Addr} {σ : L2.St} {H : Hp} {Q : VK} (q : ∀ o H', H o = none → Same H H' → BoxAt C H' o [122] [[0]] → Q (.ref o) H') : tZ C σ H Q := by
  refine ⟨by rw [sizeLine_eq]; decide, fun t1 h1 => ⟨by rw [sizeLine_eq]; simp only [List.length_cons, List.length_nil]; omega, fun t2 h2 x dx hx hdx ne => ?_⟩⟩
  have s1 := same_upd (o := .tup [.int 0]) h1
  have s2 := same_upd (o := .tup [.ref t1]) h2
  have r := z_rows (s2 _ _ upd_same) upd_same
  have s3 : Same (upd (upd H t1 (.tup [.int 0])) t2 (.tup [.ref t1])) (upd (upd (upd (upd H t1 (.tup [.int 0])) t2 (.tup [.ref t1])) dx (.own x)) x (.ins C dx [])) := fun b o z => by rw [upd_ne (ne_of_none z hx), upd_ne (ne_of_none z hdx)]; exact z
  refine ⟨x, dx, [122], t2, [[0]], 1, rfl, let_z, upd_same, r.keep (Same.tup' s3), tab_z, by decide, by decide, fun H' g1 g2 g3 => ⟨rfl, ?_⟩⟩
  have s4 : Same H H' := fun b o z => g2 b o (s3 _ _ (s2 _ _ (s1 _ _ z))) (ne_of_none (s2 _ _ (s1 _ _ z)) hx)
  exact q x H' ((s1.trans s2).free hx) s4 ⟨dx, t2, g1, g3⟩
section
variable {P : Program} {w : World} {K : Frag} {mg : Str → Option Value} {base : Heap} {c : ErrC} {C CB : Addr} {mc : Value} {p : Addr}
theorem tell_BC6 (Lb : Lib P w K mg base c C CB mc) {H' : Hp} {vW vT vSt vSp vN : V} {o : Addr} {L : W} {tb : List (List Int)} {xT xSt : Str} (hD : DiceAt H' p) (bx : BoxAt CB H' o L tb) (fL : ovrB L [122] = false) (oW : OddW H' vW) (oT : OddNum 100000000001 H' vT xT) (oSt : OddNum (tb.length : Int) H' vSt xSt) (h1 : 1 ≤ tb.length) (oSp : OddSp (tb.length : Int) H' vSp) (oN : OP H' vN) : LamTell P w K mg base c p ["_law_word", "_law_times", "_law_start", "_law_spots", "_law_none", "_law_box_here"] [vW, vT, vSt, vSp, vN, .ref o] H' qBC (callLam (nthS sBC2 6)) "word" := by
  refine lam_tell (fr := ["_law_box_here", "_law_word"]) (vals := [.ref o, vW]) [5, 0] (nscope_by (by decide +kernel)) (by decide +kernel) rfl rfl (fun _ _ _ _ _ => rfl) (fun cl c' f A outer s H E hr b e => ?_)
  · obtain ⟨gm, hc, hf⟩ := Lb.call
    obtain ⟨dx, r, g1, rows⟩ := id (bx.bx b hD)
    refine ⟨_, StX.pe_callO (E := E) (pv 0) hc hf (hr.mono (by decide)) (passes_call (takes_of rfl rfl rfl rfl) (fun _ _ _ _ h => h)) (pa_cons (pv 1) pa_nil), fun Q => ?_⟩
    exact ⟨_, rfl, o, rfl, _, rfl, .inr ⟨dx, _, g1⟩, o, L, tb, _, rfl, ⟨dx, r, g1, rows⟩, .inl ⟨(oW.bx b hD).badW.bad, (wish_w e).now⟩⟩
theorem tell_BC7 (Lb : Lib P w K mg base c C CB mc) {H' : Hp} {vW vT vSt vSp vN : V} {o : Addr} {L : W} {tb : List (List Int)} {xT xSt : Str} (hD : DiceAt H' p) (bx : BoxAt CB H' o L tb) (fL : ovrB L [122] = false) (oW : OddW H' vW) (oT : OddNum 100000000001 H' vT xT) (oSt : OddNum (tb.length : Int) H' vSt xSt) (h1 : 1 ≤ tb.length) (oSp : OddSp (tb.length : Int) H' vSp) (oN : OP H' vN) : LamTell P w K mg base c p ["_law_word", "_law_times", "_law_start", "_law_spots", "_law_none", "_law_box_here"] [vW, vT, vSt, vSp, vN, .ref o] H' qBC (callLam (nthS sBC2 7)) "operation" := by
  refine lam_tell (fr := ["_law_box_here"]) (vals := [.ref o]) [5] (nscope_by (by decide +kernel)) (by decide +kernel) rfl rfl (fun _ _ _ _ _ => rfl) (fun cl c' f A outer s H E hr b e => ?_)
  · obtain ⟨gm, hc, hf⟩ := Lb.call
    obtain ⟨dx, r, g1, rows⟩ := id (bx.bx b hD)
    refine ⟨_, StX.pe_callO (E := E) (pv 0) hc hf (hr.mono (by decide)) (passes_call (takes_of rfl rfl rfl rfl) (fun _ _ _ _ h => h)) (pa_cons pe_str pa_nil), fun Q => ?_⟩
    exact ⟨_, rfl, o, rfl, .inr ⟨dx, _, g1⟩, o, L, tb, _, rfl, ⟨dx, r, g1, rows⟩, .inr ⟨⟨[122], rfl, by decide +kernel, by decide, fL⟩, wish_o e⟩⟩
theorem tell_BC8 (Lb : Lib P w K mg base c C CB mc) {H' : Hp} {vW vT vSt vSp vN : V} {o : Addr} {L : W} {tb : List (List Int)} {xT xSt : Str} (hD : DiceAt H' p) (bx : BoxAt CB H' o L tb) (fL : ovrB L [122] = false) (oW : OddW H' vW) (oT : OddNum 100000000001 H' vT xT) (oSt : OddNum (tb.length : Int) H' vSt xSt) (h1 : 1 ≤ tb.length) (oSp : OddSp (tb.length : Int) H' vSp) (oN : OP H' vN) : LamTell P w K mg base c p ["_law_word", "_law_times", "_law_start", "_law_spots", "_law_none", "_law_box_here"] [vW, vT, vSt, vSp, vN, .ref o] H' qBC (callLam (nthS sBC2 8)) "word" := by
  refine lam_tell (fr := ["_law_box_here", "_law_word", "_law_start", "_law_times"]) (vals := [.ref o, vW, vSt, vT]) [5, 0, 2, 1] (nscope_by (by decide +kernel)) (by decide +kernel) rfl rfl (fun _ _ _ _ _ => rfl) (fun cl c' f A outer s H E hr b e => ?_)
  · obtain ⟨fm, fd, v1, hm, G, kb, r1, b1⟩ := Lb.place
    obtain ⟨dx, r, g1, rows⟩ := id (bx.bx b hD)
    refine ⟨_, MKW.pe_methN (E := E) (pv 0) Lb.cl hm G (hr.mono (by decide)) kb (passes_call (takes_of rfl rfl rfl rfl) (fun _ _ _ _ h => h)) (pa_cons (pv 1) (pa_cons (pv 2) pa_nil)) (pk_cons (pv 3) pk_nil), fun Q => ?_⟩
    exact ⟨_, rfl, o, dx, _, rfl, g1, rfl, _, rfl, _, rfl, _, rfl, rfl, rfl, o, L, tb, _, _, _, rfl, ⟨dx, r, g1, rows⟩, .inl ⟨(oW.bx b hD).badW.bad, (wish_w e).now⟩⟩
theorem tell_BC9 (Lb : Lib P w K mg base c C CB mc) {H' : Hp} {vW vT vSt vSp vN : V} {o : Addr} {L : W} {tb : List (List Int)} {xT xSt : Str} (hD : DiceAt H' p) (bx : BoxAt CB H' o L tb) (fL : ovrB L [122] = false) (oW : OddW H' vW) (oT : OddNum 100000000001 H' vT xT) (oSt : OddNum (tb.length : Int) H' vSt xSt) (h1 : 1 ≤ tb.length) (oSp : OddSp (tb.length : Int) H' vSp) (oN : OP H' vN) : LamTell P w K mg base c p ["_law_word", "_law_times", "_law_start", "_law_spots", "_law_none", "_law_box_here"] [vW, vT, vSt, vSp, vN, .ref o] H' qBC (callLam (nthS sBC2 9)) ("number " ++ xSt) := by
  refine lam_tell (fr := ["_law_box_here", "_law_start", "_law_times"]) (vals := [.ref o, vSt, vT]) [5, 2, 1] (nscope_by (by decide +kernel)) (by decide +kernel) rfl rfl (fun _ _ _ _ _ => rfl) (fun cl c' f A outer s H E hr b e => ?_)
  · obtain ⟨fm, fd, v1, hm, G, kb, r1, b1⟩ := Lb.place
    obtain ⟨dx, r, g1, rows⟩ := id (bx.bx b hD)
    refine ⟨_, MKW.pe_methN (E := E) (pv 0) Lb.cl hm G (hr.mono (by decide)) kb (passes_call (takes_of rfl rfl rfl rfl) (fun _ _ _ _ h => h)) (pa_cons pe_str (pa_cons (pv 1) pa_nil)) (pk_cons (pv 2) pk_nil), fun Q => ?_⟩
    exact ⟨_, rfl, o, dx, _, rfl, g1, rfl, _, rfl, _, rfl, rfl, rfl, o, L, tb, _, _, _, rfl, ⟨dx, r, g1, rows⟩, .inr ⟨⟨[122], rfl, by decide +kernel, by decide, fL⟩, (oSt.bx b hD).1.ov, .inl ⟨oSt.2 _ _ (by decide) (by omega), wish_n e (oSt.bx b hD).1⟩⟩⟩
theorem tell_BC10 (Lb : Lib P w K mg base c C CB mc) {H' : Hp} {vW vT vSt vSp vN : V} {o : Addr} {L : W} {tb : List (List Int)} {xT xSt : Str} (hD : DiceAt H' p) (bx : BoxAt CB H' o L tb) (fL : ovrB L [122] = false) (oW : OddW H' vW) (oT : OddNum 100000000001 H' vT xT) (oSt : OddNum (tb.length : Int) H' vSt xSt) (h1 : 1 ≤ tb.length) (oSp : OddSp (tb.length : Int) H' vSp) (oN : OP H' vN) : LamTell P w K mg base c p ["_law_word", "_law_times", "_law_start", "_law_spots", "_law_none", "_law_box_here"] [vW, vT, vSt, vSp, vN, .ref o] H' qBC (callLam (nthS sBC2 10)) ("number " ++ xT) := by
  refine lam_tell (fr := ["_law_box_here", "_law_times"]) (vals := [.ref o, vT]) [5, 1] (nscope_by (by decide +kernel)) (by decide +kernel) rfl rfl (fun _ _ _ _ _ => rfl) (fun cl c' f A outer s H E hr b e => ?_)
  · have e0 : numB (.int 0) 0 ((tb.length : Int) - 1) = true := by
      show (decide ((0 : Int) ≤ 0) && decide ((0 : Int) ≤ (tb.length : Int) - 1)) = true
      rw [decide_eq_true (show (0 : Int) ≤ (tb.length : Int) - 1 by omega)] <;> rfl
    obtain ⟨fm, fd, v1, hm, G, kb, r1, b1⟩ := Lb.place
    obtain ⟨dx, r, g1, rows⟩ := id (bx.bx b hD)
    refine ⟨_, MKW.pe_methN (E := E) (pv 0) Lb.cl hm G (hr.mono (by decide)) kb (passes_call (takes_of rfl rfl rfl rfl) (fun _ _ _ _ h => h)) (pa_cons pe_str (pa_cons pe_int pa_nil)) (pk_cons (pv 1) pk_nil), fun Q => ?_⟩
    exact ⟨_, rfl, o, dx, _, rfl, g1, rfl, _, rfl, rfl, rfl, o, L, tb, _, _, _, rfl, ⟨dx, r, g1, rows⟩, .inr ⟨⟨[122], rfl, by decide +kernel, by decide, fL⟩, .int 0, .inr ⟨e0, (oT.bx b hD).1.ov, .inl ⟨oT.2 _ _ (by decide) (by decide), wish_n e (oT.bx b hD).1⟩⟩⟩⟩
theorem tell_BC11 (Lb : Lib P w K mg base c C CB mc) {H' : Hp} {vW vT vSt vSp vN : V} {o : Addr} {L : W} {tb : List (List Int)} {xT xSt : Str} (hD : DiceAt H' p) (bx : BoxAt CB H' o L tb) (fL : ovrB L [122] = false) (oW : OddW H' vW) (oT : OddNum 100000000001 H' vT xT) (oSt : OddNum (tb.length : Int) H' vSt xSt) (h1 : 1 ≤ tb.length) (oSp : OddSp (tb.length : Int) H' vSp) (oN : OP H' vN) : LamTell P w K mg base c p ["_law_word", "_law_times", "_law_start", "_law_spots", "_law_none", "_law_box_here"] [vW, vT, vSt, vSp, vN, .ref o] H' qBC (callLam (nthS sBC2 11)) "operation" := by
  refine lam_tell (fr := ["_law_box_here"]) (vals := [.ref o]) [5] (nscope_by (by decide +kernel)) (by decide +kernel) rfl rfl (fun _ _ _ _ _ => rfl) (fun cl c' f A outer s H E hr b e => ?_)
  · have e0 : numB (.int 0) 0 ((tb.length : Int) - 1) = true := by
      show (decide ((0 : Int) ≤ 0) && decide ((0 : Int) ≤ (tb.length : Int) - 1)) = true
      rw [decide_eq_true (show (0 : Int) ≤ (tb.length : Int) - 1 by omega)] <;> rfl
    obtain ⟨fm, fd, v1, hm, G, kb, r1, b1⟩ := Lb.place
    obtain ⟨dx, r, g1, rows⟩ := id (bx.bx b hD)
    refine ⟨_, pe_meth (E := E) (pv 0) Lb.cl hm G (hr.mono (by decide)) b1 (dvs := [.int 1]) (.cons r1 .nil) (passes_call (takes_of rfl rfl rfl rfl) (fun _ _ _ _ h => h)) (pa_cons pe_str (pa_cons pe_int pa_nil)), fun Q => ?_⟩
    exact ⟨_, rfl, o, dx, _, rfl, g1, rfl, o, L, tb, _, _, _, rfl, ⟨dx, r, g1, rows⟩, .inr ⟨⟨[122], rfl, by decide +kernel, by decide, fL⟩, .int 0, .inr ⟨e0, .int 1, .inr ⟨by decide +kernel, wish_o e⟩⟩⟩⟩
theorem tell_BC12 (Lb : Lib P w K mg base c C CB mc) {H' : Hp} {vW vT vSt vSp vN : V} {o : Addr} {L : W} {tb : List (List Int)} {xT xSt : Str} (hD : DiceAt H' p) (bx : BoxAt CB H' o L tb) (fL : ovrB L [122] = false) (oW : OddW H' vW) (oT : OddNum 100000000001 H' vT xT) (oSt : OddNum (tb.length : Int) H' vSt xSt) (h1 : 1 ≤ tb.length) (oSp : OddSp (tb.length : Int) H' vSp) (oN : OP H' vN) : LamTell P w K mg base c p ["_law_word", "_law_times", "_law_start", "_law_spots", "_law_none", "_law_box_here"] [vW, vT, vSt, vSp, vN, .ref o] H' qBC (callLam (nthS sBC2 12)) "word" := by
  refine lam_tell (fr := ["_law_box_here", "_law_word"]) (vals := [.ref o, vW]) [5, 0] (nscope_by (by decide +kernel)) (by decide +kernel) rfl rfl (fun _ _ _ _ _ => rfl) (fun cl c' f A outer s H E hr b e => ?_)
  · obtain ⟨fm, fd, hm, G, kb⟩ := Lb.action
    obtain ⟨dx, r, g1, rows⟩ := id (bx.bx b hD)
    refine ⟨_, pe_meth (E := E) (pv 0) Lb.cl hm G (hr.mono (by decide)) kb .nil (passes_call (takes_of rfl rfl rfl rfl) (fun _ _ _ _ h => h)) (pa_cons (pv 1) pa_nil), fun Q => ?_⟩
    exact ⟨_, rfl, o, dx, _, rfl, g1, rfl, _, rfl, o, L, tb, _, rfl, ⟨dx, r, g1, rows⟩, .inl ⟨(oW.bx b hD).badW.bad, (wish_w e).now⟩⟩
theorem tell_BC13 (Lb : Lib P w K mg base c C CB mc) {H' : Hp} {vW vT vSt vSp vN : V} {o : Addr} {L : W} {tb : List (List Int)} {xT xSt : Str} (hD : DiceAt H' p) (bx : BoxAt CB H' o L tb) (fL : ovrB L [122] = false) (oW : OddW H' vW) (oT : OddNum 100000000001 H' vT xT) (oSt : OddNum (tb.length : Int) H' vSt xSt) (h1 : 1 ≤ tb.length) (oSp : OddSp (tb.length : Int) H' vSp) (oN : OP H' vN) : LamTell P w K mg base c p ["_law_word", "_law_times", "_law_start", "_law_spots", "_law_none", "_law_box_here"] [vW, vT, vSt, vSp, vN, .ref o] H' qBC (callLam (nthS sBC2 13)) "operation" := by
  refine lam_tell (fr := ["_law_box_here"]) (vals := [.ref o]) [5] (nscope_by (by decide +kernel)) (by decide +kernel) rfl rfl (fun _ _ _ _ _ => rfl) (fun cl c' f A outer s H E hr b e => ?_)
  · obtain ⟨fm, fd, hm, G, kb⟩ := Lb.action
    obtain ⟨dx, r, g1, rows⟩ := id (bx.bx b hD)
    refine ⟨_, pe_meth (E := E) (pv 0) Lb.cl hm G (hr.mono (by decide)) kb .nil (passes_call (takes_of rfl rfl rfl rfl) (fun _ _ _ _ h => h)) (pa_cons pe_str pa_nil), fun Q => ?_⟩
    exact ⟨_, rfl, o, dx, _, rfl, g1, rfl, o, L, tb, _, rfl, ⟨dx, r, g1, rows⟩, .inr ⟨⟨[122], rfl, by decide +kernel, by decide, fL⟩, wish_o e⟩⟩
theorem tell_BC14 (Lb : Lib P w K mg base c C CB mc) {H' : Hp} {vW vT vSt vSp vN : V} {o : Addr} {L : W} {tb : List (List Int)} {xT xSt : Str} (hD : DiceAt H' p) (bx : BoxAt CB H' o L tb) (fL : ovrB L [122] = false) (oW : OddW H' vW) (oT : OddNum 100000000001 H' vT xT) (oSt : OddNum (tb.length : Int) H' vSt xSt) (h1 : 1 ≤ tb.length) (oSp : OddSp (tb.length : Int) H' vSp) (oN : OP H' vN) : LamTell P w K mg base c p ["_law_word", "_law_times", "_law_start", "_law_spots", "_law_none", "_law_box_here"] [vW, vT, vSt, vSp, vN, .ref o] H' qBC (callLam (nthS sBC2 14)) ("number " ++ xSt) := by
  refine lam_tell (fr := ["_law_box_here", "_law_start"]) (vals := [.ref o, vSt]) [5, 2] (nscope_by (by decide +kernel)) (by decide +kernel) rfl rfl (fun _ _ _ _ _ => rfl) (fun cl c' f A outer s H E hr b e => ?_)
  · obtain ⟨fm, fd, hm, G, kb⟩ := Lb.first
    obtain ⟨dx, r, g1, rows⟩ := id (bx.bx b hD)
    refine ⟨_, pe_meth (E := E) (pv 0) Lb.cl hm G (hr.mono (by decide)) kb .nil (passes_call (takes_of rfl rfl rfl rfl) (fun _ _ _ _ h => h)) (pa_cons (pv 1) pa_nil), fun Q => ?_⟩
    exact ⟨_, rfl, o, dx, _, rfl, g1, rfl, _, rfl, o, L, tb, _, rfl, ⟨dx, r, g1, rows⟩, (oSt.bx b hD).1.ov, oSt.2 _ _ (by decide) (by omega), wish_n e (oSt.bx b hD).1⟩
theorem tell_BC15 (Lb : Lib P w K mg base c C CB mc) {H' : Hp} {vW vT vSt vSp vN : V} {o : Addr} {L : W} {tb : List (List Int)} {xT xSt : Str} (hD : DiceAt H' p) (bx : BoxAt CB H' o L tb) (fL : ovrB L [122] = false) (oW : OddW H' vW) (oT : OddNum 100000000001 H' vT xT) (oSt : OddNum (tb.length : Int) H' vSt xSt) (h1 : 1 ≤ tb.length) (oSp : OddSp (tb.length : Int) H' vSp) (oN : OP H' vN) : LamTell P w K mg base c p ["_law_word", "_law_times", "_law_start", "_law_spots", "_law_none", "_law_box_here"] [vW, vT, vSt, vSp, vN, .ref o] H' qBC (callLam (nthS sBC2 15)) "operation" := by
  refine lam_tell (fr := ["_law_box_here", "_law_spots"]) (vals := [.ref o, vSp]) [5, 3] (nscope_by (by decide +kernel)) (by decide +kernel) rfl rfl (fun _ _ _ _ _ => rfl) (fun cl c' f A outer s H E hr b e => ?_)
  · obtain ⟨fm, fd, hm, G, kb⟩ := Lb.mach
    obtain ⟨dx, r, g1, rows⟩ := id (bx.bx b hD)
    refine ⟨_, pe_meth (E := E) (pv 0) Lb.cl hm G (hr.mono (by decide)) kb .nil (passes_call (takes_of rfl rfl rfl rfl) (fun _ _ _ _ h => h)) (pa_cons (pv 1) pa_nil), fun Q => ?_⟩
    exact ⟨_, rfl, o, dx, _, rfl, g1, rfl, _, rfl, o, L, tb, _, rfl, ⟨dx, r, g1, rows⟩, (oSp.bx b hD).asc, wish_o e⟩
theorem tell_BC16 (Lb : Lib P w K mg base c C CB mc) {H' : Hp} {vW vT vSt vSp vN : V} {o : Addr} {L : W} {tb : List (List Int)} {xT xSt : Str} (hD : DiceAt H' p) (bx : BoxAt CB H' o L tb) (fL : ovrB L [122] = false) (oW : OddW H' vW) (oT : OddNum 100000000001 H' vT xT) (oSt : OddNum (tb.length : Int) H' vSt xSt) (h1 : 1 ≤ tb.length) (oSp : OddSp (tb.length : Int) H' vSp) (oN : OP H' vN) : LamTell P w K mg base c p ["_law_word", "_law_times", "_law_start", "_law_spots", "_law_none", "_law_box_here"] [vW, vT, vSt, vSp, vN, .ref o] H' qBC (callLam (nthS sBC2 16)) "box" := by
  refine lam_tell (fr := ["_law_box_here", "_law_none"]) (vals := [.ref o, vN]) [5, 4] (nscope_by (by decide +kernel)) (by decide +kernel) rfl rfl (fun _ _ _ _ _ => rfl) (fun cl c' f A outer s H E hr b e => ?_)
  · obtain ⟨gm, ha, hf, G⟩ := Lb.and
    obtain ⟨dx, r, g1, rows⟩ := id (bx.bx b hD)
    obtain ⟨tn, ht, ty⟩ := (oN.bx b hD).ov.ty (K := K)
    refine ⟨_, pe_op (OWN.op_binX (E := E) ha hf Lb.sf Lb.nor G (hr.mono (by decide)) (passes_call (takes_of rfl rfl rfl rfl) (fun _ _ _ _ h => h))) (pv 0) (pv 1), fun Q => ?_⟩
    exact ⟨_, rfl, _, rfl, o, dx, _, tn, rfl, g1, ty, beside_and Lb.sub tn ht, o, L, tb, _, rfl, ⟨dx, r, g1, rows⟩, .inl ⟨(oN.bx b hD).ov, (wish_b e).now⟩⟩
theorem tell_BC17 (Lb : Lib P w K mg base c C CB mc) {H' : Hp} {vW vT vSt vSp vN : V} {o : Addr} {L : W} {tb : List (List Int)} {xT xSt : Str} (hD : DiceAt H' p) (bx : BoxAt CB H' o L tb) (fL : ovrB L [122] = false) (oW : OddW H' vW) (oT : OddNum 100000000001 H' vT xT) (oSt : OddNum (tb.length : Int) H' vSt xSt) (h1 : 1 ≤ tb.length) (oSp : OddSp (tb.length : Int) H' vSp) (oN : OP H' vN) : LamTell P w K mg base c p ["_law_word", "_law_times", "_law_start", "_law_spots", "_law_none", "_law_box_here"] [vW, vT, vSt, vSp, vN, .ref o] H' qBC (callLam (nthS sBC2 17)) "operation" := by
  refine lam_tell (fr := ["_law_box_here"]) (vals := [.ref o]) [5] (nscope_by (by decide +kernel)) (by decide +kernel) rfl rfl (fun _ _ _ _ _ => rfl) (fun cl c' f A outer s H E hr b e => ?_)
  · obtain ⟨gm, ha, hf, G⟩ := Lb.and
    obtain ⟨fi, fdi, MI, GI, bI⟩ := Lb.made
    obtain ⟨dx, r, g1, rows⟩ := id (bx.bx b hD)
    refine ⟨_, pe_op (OWN.op_binS (E := E) ha hf Lb.sf G (hr.mono (by decide)) (passes_call (takes_of rfl rfl rfl rfl) (fun _ _ _ _ h => h))) (pv 0) (pe_make (E := E0) MI GI (hr.mono (by decide)) rfl Lb.gB bI .nil pass0 (pa_cons pe_str (pa_cons (pe_tup (pa_cons (pe_tup (pa_cons pe_int pa_nil)) pa_nil)) pa_nil))), fun Q => ?_⟩
    refine ⟨_, rfl, ?_⟩
    refine z_read fun z H1 nz s1 bz => ?_
    obtain ⟨dz, rz, z1, zr⟩ := id bz
    exact ⟨o, dx, _, z, dz, _, rfl, rfl, s1 _ _ g1, z1, o, L, tb, _, rfl, ⟨dx, r, s1 _ _ g1, rows.keep (Same.tup' s1)⟩, .inr ⟨z, [122], [[0]], rfl, ⟨dz, rz, z1, zr⟩, far_ne fL, (wish_o e) _ s1⟩⟩
end
end WK
set_option Elab.async false
set_option linter.all false
set_option maxRecDepth 100000
set_option maxHeartbeats 8000000
namespace WK
open PySem L2 PyProof.Rows LCX K1 FV LamX NdefX RM
open TX (sg sigs)
open PySem.W (Frag kitOne)
def MsP (C : Addr) (H : Hp) (xs : List V) : Prop := ∀ x ∈ xs, OP H x ∨ ∃ a, x = .ref a ∧ InsAt C H a
theorem InsAt.bx {C p : Addr} {H H' : Hp} {a : Addr} (h : InsAt C H a) (b : Bx p H H') (d : DiceAt H p) : InsAt C H' a := let ⟨dx, fs, e⟩ := h; ⟨dx, fs, b.at_ d e (fun _ _ _ => (nomatch ·)) (fun _ => (nomatch ·)) fun _ => (nomatch ·)⟩
/-- drawn values that are no tuple of one to eight machines -/
def OddMs (C : Addr) (H : Hp) (v : V) : Prop := OP H v ∧ ∀ a xs, v = .ref a → H a = some (.tup xs) → xs.length ≤ 100 ∧ MsP C H xs ∧ ((∃ x ∈ xs, OP H x) ∨ xs = [] ∨ 8 < xs.length)
theorem OddMs.bx {C p : Addr} {H H' : Hp} {v : V} (h : OddMs C H v) (b : Bx p H H') (d : DiceAt H p) : OddMs C H' v := by
  refine ⟨h.1.bx b d, fun a xs e z => ?_⟩
  obtain ⟨o, k⟩ := h
  subst e
  cases o with
  | tup e =>
    have := b.at_ d e (fun _ _ _ => (nomatch ·)) (fun _ => (nomatch ·)) fun _ => (nomatch ·)
    rw [z] at this
    cases this
    obtain ⟨k1, k2, k3⟩ := k _ _ rfl e
    exact ⟨k1, fun x hx => (k2 x hx).imp (fun q => q.bx b d) fun ⟨a, e, q⟩ => ⟨a, e, q.bx b d⟩, k3.imp_left fun ⟨x, hx, q⟩ => ⟨x, hx, q.bx b d⟩⟩
  | lst e n =>
    have := b.at_ d e (fun x y z e => n x y z (HO.lst.inj e)) (fun _ => (nomatch ·)) fun _ => (nomatch ·)
    rw [z] at this
    cases this
  | dic e =>
    have := b.at_ d e (fun _ _ _ => (nomatch ·)) (fun _ => (nomatch ·)) fun _ => (nomatch ·)
    rw [z] at this
    cases this
theorem OddMs.bad {C : Addr} {H : Hp} {v : V} (h : OddMs C H v) : BadMs C H v := by
  obtain ⟨o, k⟩ := h
  cases o with
  | tup e =>
    obtain ⟨k1, k2, k3⟩ := k _ _ rfl e
    exact .inl ⟨_, _, rfl, e, k1, fun x hx => (k2 x hx).imp_left fun q => q.ov, k3.imp_left fun ⟨x, hx, q⟩ => ⟨x, hx, q.ov⟩⟩
  | non => exact .inr ⟨.non, fun _ _ => (nomatch ·)⟩
  | int i => exact .inr ⟨.int i, fun _ _ => (nomatch ·)⟩
  | bl b => exact .inr ⟨.bl b, fun _ _ => (nomatch ·)⟩
  | str x => exact .inr ⟨.str x, fun _ _ => (nomatch ·)⟩
  | lst e n => exact .inr ⟨.lst e, fun t xs z y => by cases z; rw [e] at y; cases y⟩
  | dic e => exact .inr ⟨.dic e, fun t xs z y => by cases z; rw [e] at y; cases y⟩
theorem ms_one {C : Addr} {H : Hp} {m : Addr} {L : W} {tm : List (List Int)} {es : List Int} (h : MacAt C H m L tm es) : MsL C H [.ref m] L := fun x hx => ⟨m, tm, es, List.mem_singleton.mp hx, h⟩
theorem ms_two {C : Addr} {H : Hp} {m : Addr} {L : W} {tm : List (List Int)} {es : List Int} (h : MacAt C H m L tm es) : MsL C H [.ref m, .ref m] L := fun x hx => ⟨m, tm, es, (List.mem_cons.mp hx).elim (fun e => e) List.mem_singleton.mp, h⟩
/-- machines and plain values, in any order -/
theorem or_cons {C : Addr} {H : Hp} {x : V} {xs : List V} (h : OV H x ∨ ∃ a, x = .ref a ∧ InsAt C H a) (t : MsOr C H xs) : MsOr C H (x :: xs) := fun y hy => (List.mem_cons.mp hy).elim (fun e => e ▸ h) (t y)
theorem or_nil {C : Addr} {H : Hp} : MsOr C H [] := fun _ h => (List.not_mem_nil h).elim
section
variable {P : Program} {w : World} {K : Frag} {mg : Str → Option Value} {base : Heap} {c : ErrC} {C CB : Addr} {mc : Value} {p : Addr}
theorem tell_SC5 (Lb : Lib P w K mg base c C CB mc) {H' : Hp} {vW vSm vP vN : V} {m z o : Addr} {L : W} {tb tm : List (List Int)} {es : List Int} {xP : Str} (hD : DiceAt H' p) (bx : BoxAt CB H' o L tb) (mac : MacAt C H' m L tm es) (bz : BoxAt CB H' z [122] [[0]]) (fL : ovrB L [122] = false) (oW : OddW H' vW) (oP : OddNum (tb.length : Int) H' vP xP) (oN : OP H' vN) (oM : OddMs C H' vSm) (h1 : 1 ≤ tb.length) (h9 : tb.length ≤ 1000) : LamTell P w K mg base c p ["_law_word", "_law_some", "_law_place", "_law_one", "_law_none", "_law_far", "_law_box_here"] [vW, vSm, vP, .ref m, vN, .ref z, .ref o] H' qSC (callLam (nthS sSC 5)) "machine" := by
  refine lam_tell (fr := ["_law_none"]) (vals := [vN]) [4] (nscope_by (by decide +kernel)) (by decide +kernel) rfl rfl (fun _ _ _ _ _ => rfl) (fun cl c' f A outer s H E hr b e => ?_)
  · have M := mac.bx b hD
    have Z := bz.bx b hD
    have B := bx.bx b hD
    have N := (oN.bx b hD).ov
    have m1 := ms_one M
    have m2 := ms_two M
    refine ⟨_, pe_has (E := E) Lb.places (hr.mono (by decide)) (passes_call (takes_of rfl rfl rfl rfl) (fun _ _ _ _ h => h)) (pa_cons (pv 0) (pa_cons (pv 0) pa_nil)), fun Q => ?_⟩
    exact ⟨_, rfl, _, rfl, _, _, rfl, .inl ⟨or_cons (.inl N) or_nil, .inl ⟨⟨_, .head _, N⟩, wish_m e⟩⟩⟩
theorem tell_SC6 (Lb : Lib P w K mg base c C CB mc) {H' : Hp} {vW vSm vP vN : V} {m z o : Addr} {L : W} {tb tm : List (List Int)} {es : List Int} {xP : Str} (hD : DiceAt H' p) (bx : BoxAt CB H' o L tb) (mac : MacAt C H' m L tm es) (bz : BoxAt CB H' z [122] [[0]]) (fL : ovrB L [122] = false) (oW : OddW H' vW) (oP : OddNum (tb.length : Int) H' vP xP) (oN : OP H' vN) (oM : OddMs C H' vSm) (h1 : 1 ≤ tb.length) (h9 : tb.length ≤ 1000) : LamTell P w K mg base c p ["_law_word", "_law_some", "_law_place", "_law_one", "_law_none", "_law_far", "_law_box_here"] [vW, vSm, vP, .ref m, vN, .ref z, .ref o] H' qSC (callLam (nthS sSC 6)) "box" := by
  refine lam_tell (fr := ["_law_none", "_law_one"]) (vals := [vN, .ref m]) [4, 3] (nscope_by (by decide +kernel)) (by decide +kernel) rfl rfl (fun _ _ _ _ _ => rfl) (fun cl c' f A outer s H E hr b e => ?_)
  · have M := mac.bx b hD
    have Z := bz.bx b hD
    have B := bx.bx b hD
    have N := (oN.bx b hD).ov
    have m1 := ms_one M
    have m2 := ms_two M
    refine ⟨_, pe_has (E := E) Lb.places (hr.mono (by decide)) (passes_call (takes_of rfl rfl rfl rfl) (fun _ _ _ _ h => h)) (pa_cons (pv 1) (pa_cons (pv 0) pa_nil)), fun Q => ?_⟩
    exact ⟨_, rfl, _, rfl, _, _, rfl, .inl ⟨m1.all.or, .inr ⟨m1.all, N, wish_b e⟩⟩⟩
theorem tell_SC7 (Lb : Lib P w K mg base c C CB mc) {H' : Hp} {vW vSm vP vN : V} {m z o : Addr} {L : W} {tb tm : List (List Int)} {es : List Int} {xP : Str} (hD : DiceAt H' p) (bx : BoxAt CB H' o L tb) (mac : MacAt C H' m L tm es) (bz : BoxAt CB H' z [122] [[0]]) (fL : ovrB L [122] = false) (oW : OddW H' vW) (oP : OddNum (tb.length : Int) H' vP xP) (oN : OP H' vN) (oM : OddMs C H' vSm) (h1 : 1 ≤ tb.length) (h9 : tb.length ≤ 1000) : LamTell P w K mg base c p ["_law_word", "_law_some", "_law_place", "_law_one", "_law_none", "_law_far", "_law_box_here"] [vW, vSm, vP, .ref m, vN, .ref z, .ref o] H' qSC (callLam (nthS sSC 7)) "operation" := by
  refine lam_tell (fr := ["_law_far", "_law_one"]) (vals := [.ref z, .ref m]) [5, 3] (nscope_by (by decide +kernel)) (by decide +kernel) rfl rfl (fun _ _ _ _ _ => rfl) (fun cl c' f A outer s H E hr b e => ?_)
  · have M := mac.bx b hD
    have Z := bz.bx b hD
    have B := bx.bx b hD
    have N := (oN.bx b hD).ov
    have m1 := ms_one M
    have m2 := ms_two M
    refine ⟨_, pe_has (E := E) Lb.places (hr.mono (by decide)) (passes_call (takes_of rfl rfl rfl rfl) (fun _ _ _ _ h => h)) (pa_cons (pv 1) (pa_cons (pv 0) pa_nil)), fun Q => ?_⟩
    exact ⟨_, rfl, _, rfl, _, _, rfl, .inr ⟨⟨z, L, [122], [[0]], rfl, List.cons_ne_nil _ _, m1, Z, far_ne fL⟩, wish_o e⟩⟩
theorem tell_SC8 (Lb : Lib P w K mg base c C CB mc) {H' : Hp} {vW vSm vP vN : V} {m z o : Addr} {L : W} {tb tm : List (List Int)} {es : List Int} {xP : Str} (hD : DiceAt H' p) (bx : BoxAt CB H' o L tb) (mac : MacAt C H' m L tm es) (bz : BoxAt CB H' z [122] [[0]]) (fL : ovrB L [122] = false) (oW : OddW H' vW) (oP : OddNum (tb.length : Int) H' vP xP) (oN : OP H' vN) (oM : OddMs C H' vSm) (h1 : 1 ≤ tb.length) (h9 : tb.length ≤ 1000) : LamTell P w K mg base c p ["_law_word", "_law_some", "_law_place", "_law_one", "_law_none", "_law_far", "_law_box_here"] [vW, vSm, vP, .ref m, vN, .ref z, .ref o] H' qSC (callLam (nthS sSC 8)) "box" := by
  refine lam_tell (fr := ["_law_none", "_law_one", "_law_place"]) (vals := [vN, .ref m, vP]) [4, 3, 2] (nscope_by (by decide +kernel)) (by decide +kernel) rfl rfl (fun _ _ _ _ _ => rfl) (fun cl c' f A outer s H E hr b e => ?_)
  · have M := mac.bx b hD
    have Z := bz.bx b hD
    have B := bx.bx b hD
    have N := (oN.bx b hD).ov
    have m1 := ms_one M
    have m2 := ms_two M
    refine ⟨_, pe_has (E := E) Lb.wordTo (hr.mono (by decide)) (passes_call (takes_of rfl rfl rfl rfl) (fun _ _ _ _ h => h)) (pa_cons (pv 1) (pa_cons (pv 0) (pa_cons (pv 2) pa_nil))), fun Q => ?_⟩
    exact ⟨_, rfl, _, rfl, _, rfl, _, _, _, rfl, .inl ⟨m1.all.or, .inr ⟨m1.all, N, wish_b e⟩⟩⟩
theorem tell_SC9 (Lb : Lib P w K mg base c C CB mc) {H' : Hp} {vW vSm vP vN : V} {m z o : Addr} {L : W} {tb tm : List (List Int)} {es : List Int} {xP : Str} (hD : DiceAt H' p) (bx : BoxAt CB H' o L tb) (mac : MacAt C H' m L tm es) (bz : BoxAt CB H' z [122] [[0]]) (fL : ovrB L [122] = false) (oW : OddW H' vW) (oP : OddNum (tb.length : Int) H' vP xP) (oN : OP H' vN) (oM : OddMs C H' vSm) (h1 : 1 ≤ tb.length) (h9 : tb.length ≤ 1000) : LamTell P w K mg base c p ["_law_word", "_law_some", "_law_place", "_law_one", "_law_none", "_law_far", "_law_box_here"] [vW, vSm, vP, .ref m, vN, .ref z, .ref o] H' qSC (callLam (nthS sSC 9)) ("number " ++ xP) := by
  refine lam_tell (fr := ["_law_box_here", "_law_one", "_law_place"]) (vals := [.ref o, .ref m, vP]) [6, 3, 2] (nscope_by (by decide +kernel)) (by decide +kernel) rfl rfl (fun _ _ _ _ _ => rfl) (fun cl c' f A outer s H E hr b e => ?_)
  · have M := mac.bx b hD
    have Z := bz.bx b hD
    have B := bx.bx b hD
    have N := (oN.bx b hD).ov
    have m1 := ms_one M
    have m2 := ms_two M
    refine ⟨_, pe_has (E := E) Lb.wordTo (hr.mono (by decide)) (passes_call (takes_of rfl rfl rfl rfl) (fun _ _ _ _ h => h)) (pa_cons (pv 1) (pa_cons (pv 0) (pa_cons (pv 2) pa_nil))), fun Q => ?_⟩
    exact ⟨_, rfl, _, rfl, _, rfl, _, _, _, rfl, .inr ⟨tb.length, ⟨o, L, tb, rfl, m1.all, B, rfl, h9⟩, (oP.bx b hD).1.ov, .inl ⟨oP.2 _ _ (by decide) (by omega), wish_n e (oP.bx b hD).1⟩⟩⟩
theorem tell_SC10 (Lb : Lib P w K mg base c C CB mc) {H' : Hp} {vW vSm vP vN : V} {m z o : Addr} {L : W} {tb tm : List (List Int)} {es : List Int} {xP : Str} (hD : DiceAt H' p) (bx : BoxAt CB H' o L tb) (mac : MacAt C H' m L tm es) (bz : BoxAt CB H' z [122] [[0]]) (fL : ovrB L [122] = false) (oW : OddW H' vW) (oP : OddNum (tb.length : Int) H' vP xP) (oN : OP H' vN) (oM : OddMs C H' vSm) (h1 : 1 ≤ tb.length) (h9 : tb.length ≤ 1000) : LamTell P w K mg base c p ["_law_word", "_law_some", "_law_place", "_law_one", "_law_none", "_law_far", "_law_box_here"] [vW, vSm, vP, .ref m, vN, .ref z, .ref o] H' qSC (callLam (nthS sSC 10)) "operation" := by
  refine lam_tell (fr := ["_law_far", "_law_one"]) (vals := [.ref z, .ref m]) [5, 3] (nscope_by (by decide +kernel)) (by decide +kernel) rfl rfl (fun _ _ _ _ _ => rfl) (fun cl c' f A outer s H E hr b e => ?_)
  · have M := mac.bx b hD
    have Z := bz.bx b hD
    have B := bx.bx b hD
    have N := (oN.bx b hD).ov
    have m1 := ms_one M
    have m2 := ms_two M
    refine ⟨_, pe_has (E := E) Lb.wordTo (hr.mono (by decide)) (passes_call (takes_of rfl rfl rfl rfl) (fun _ _ _ _ h => h)) (pa_cons (pv 1) (pa_cons (pv 0) (pa_cons pe_int pa_nil))), fun Q => ?_⟩
    exact ⟨_, rfl, _, rfl, _, _, _, rfl, .inr ⟨1, ⟨z, [122], [[0]], rfl, m1.all, Z, rfl, by decide⟩, .int 0, .inr ⟨by decide +kernel, ⟨z, L, [122], [[0]], rfl, List.cons_ne_nil _ _, m1, Z, far_ne fL⟩, wish_o e⟩⟩⟩
theorem tell_SC11 (Lb : Lib P w K mg base c C CB mc) {H' : Hp} {vW vSm vP vN : V} {m z o : Addr} {L : W} {tb tm : List (List Int)} {es : List Int} {xP : Str} (hD : DiceAt H' p) (bx : BoxAt CB H' o L tb) (mac : MacAt C H' m L tm es) (bz : BoxAt CB H' z [122] [[0]]) (fL : ovrB L [122] = false) (oW : OddW H' vW) (oP : OddNum (tb.length : Int) H' vP xP) (oN : OP H' vN) (oM : OddMs C H' vSm) (h1 : 1 ≤ tb.length) (h9 : tb.length ≤ 1000) : LamTell P w K mg base c p ["_law_word", "_law_some", "_law_place", "_law_one", "_law_none", "_law_far", "_law_box_here"] [vW, vSm, vP, .ref m, vN, .ref z, .ref o] H' qSC (callLam (nthS sSC 11)) "machine" := by
  refine lam_tell (fr := ["_law_none", "_law_one"]) (vals := [vN, .ref m]) [4, 3] (nscope_by (by decide +kernel)) (by decide +kernel) rfl rfl (fun _ _ _ _ _ => rfl) (fun cl c' f A outer s H E hr b e => ?_)
  · have M := mac.bx b hD
    have Z := bz.bx b hD
    have B := bx.bx b hD
    have N := (oN.bx b hD).ov
    have m1 := ms_one M
    have m2 := ms_two M
    refine ⟨_, pe_has (E := E) Lb.tells (hr.mono (by decide)) (passes_call (takes_of rfl rfl rfl rfl) (fun _ _ _ _ h => h)) (pa_cons (pv 1) (pa_cons (pv 0) (pa_cons (pv 0) pa_nil))), fun Q => ?_⟩
    exact ⟨_, rfl, _, rfl, _, rfl, _, _, _, rfl, .inl ⟨or_cons (.inr (m1.all _ (.head _))) (or_cons (.inl N) or_nil), .inl ⟨⟨_, .tail _ (.head _), N⟩, wish_m e⟩⟩⟩
theorem tell_SC12 (Lb : Lib P w K mg base c C CB mc) {H' : Hp} {vW vSm vP vN : V} {m z o : Addr} {L : W} {tb tm : List (List Int)} {es : List Int} {xP : Str} (hD : DiceAt H' p) (bx : BoxAt CB H' o L tb) (mac : MacAt C H' m L tm es) (bz : BoxAt CB H' z [122] [[0]]) (fL : ovrB L [122] = false) (oW : OddW H' vW) (oP : OddNum (tb.length : Int) H' vP xP) (oN : OP H' vN) (oM : OddMs C H' vSm) (h1 : 1 ≤ tb.length) (h9 : tb.length ≤ 1000) : LamTell P w K mg base c p ["_law_word", "_law_some", "_law_place", "_law_one", "_law_none", "_law_far", "_law_box_here"] [vW, vSm, vP, .ref m, vN, .ref z, .ref o] H' qSC (callLam (nthS sSC 12)) "box" := by
  refine lam_tell (fr := ["_law_none", "_law_one"]) (vals := [vN, .ref m]) [4, 3] (nscope_by (by decide +kernel)) (by decide +kernel) rfl rfl (fun _ _ _ _ _ => rfl) (fun cl c' f A outer s H E hr b e => ?_)
  · have M := mac.bx b hD
    have Z := bz.bx b hD
    have B := bx.bx b hD
    have N := (oN.bx b hD).ov
    have m1 := ms_one M
    have m2 := ms_two M
    refine ⟨_, pe_has (E := E) Lb.tells (hr.mono (by decide)) (passes_call (takes_of rfl rfl rfl rfl) (fun _ _ _ _ h => h)) (pa_cons (pv 1) (pa_cons (pv 1) (pa_cons (pv 0) pa_nil))), fun Q => ?_⟩
    exact ⟨_, rfl, _, rfl, _, rfl, _, _, _, rfl, .inl ⟨m2.all.or, .inr ⟨m2.all, N, wish_b e⟩⟩⟩
theorem tell_SC13 (Lb : Lib P w K mg base c C CB mc) {H' : Hp} {vW vSm vP vN : V} {m z o : Addr} {L : W} {tb tm : List (List Int)} {es : List Int} {xP : Str} (hD : DiceAt H' p) (bx : BoxAt CB H' o L tb) (mac : MacAt C H' m L tm es) (bz : BoxAt CB H' z [122] [[0]]) (fL : ovrB L [122] = false) (oW : OddW H' vW) (oP : OddNum (tb.length : Int) H' vP xP) (oN : OP H' vN) (oM : OddMs C H' vSm) (h1 : 1 ≤ tb.length) (h9 : tb.length ≤ 1000) : LamTell P w K mg base c p ["_law_word", "_law_some", "_law_place", "_law_one", "_law_none", "_law_far", "_law_box_here"] [vW, vSm, vP, .ref m, vN, .ref z, .ref o] H' qSC (callLam (nthS sSC 13)) "machine" := by
  refine lam_tell (fr := ["_law_none", "_law_one"]) (vals := [vN, .ref m]) [4, 3] (nscope_by (by decide +kernel)) (by decide +kernel) rfl rfl (fun _ _ _ _ _ => rfl) (fun cl c' f A outer s H E hr b e => ?_)
  · have M := mac.bx b hD
    have Z := bz.bx b hD
    have B := bx.bx b hD
    have N := (oN.bx b hD).ov
    have m1 := ms_one M
    have m2 := ms_two M
    refine ⟨_, pe_has (E := E) Lb.alike (hr.mono (by decide)) (passes_call (takes_of rfl rfl rfl rfl) (fun _ _ _ _ h => h)) (pa_cons (pv 0) (pa_cons (pv 1) (pa_cons (pv 0) pa_nil))), fun Q => ?_⟩
    exact ⟨_, rfl, _, rfl, _, rfl, _, _, _, rfl, .inl ⟨or_cons (.inl N) m1.all.or, .inl ⟨⟨_, .head _, N⟩, wish_m e⟩⟩⟩
theorem tell_SC14 (Lb : Lib P w K mg base c C CB mc) {H' : Hp} {vW vSm vP vN : V} {m z o : Addr} {L : W} {tb tm : List (List Int)} {es : List Int} {xP : Str} (hD : DiceAt H' p) (bx : BoxAt CB H' o L tb) (mac : MacAt C H' m L tm es) (bz : BoxAt CB H' z [122] [[0]]) (fL : ovrB L [122] = false) (oW : OddW H' vW) (oP : OddNum (tb.length : Int) H' vP xP) (oN : OP H' vN) (oM : OddMs C H' vSm) (h1 : 1 ≤ tb.length) (h9 : tb.length ≤ 1000) : LamTell P w K mg base c p ["_law_word", "_law_some", "_law_place", "_law_one", "_law_none", "_law_far", "_law_box_here"] [vW, vSm, vP, .ref m, vN, .ref z, .ref o] H' qSC (callLam (nthS sSC 14)) "operation" := by
  refine lam_tell (fr := ["_law_far", "_law_one"]) (vals := [.ref z, .ref m]) [5, 3] (nscope_by (by decide +kernel)) (by decide +kernel) rfl rfl (fun _ _ _ _ _ => rfl) (fun cl c' f A outer s H E hr b e => ?_)
  · have M := mac.bx b hD
    have Z := bz.bx b hD
    have B := bx.bx b hD
    have N := (oN.bx b hD).ov
    have m1 := ms_one M
    have m2 := ms_two M
    refine ⟨_, pe_has (E := E) Lb.alike (hr.mono (by decide)) (passes_call (takes_of rfl rfl rfl rfl) (fun _ _ _ _ h => h)) (pa_cons (pv 1) (pa_cons (pv 1) (pa_cons (pv 0) pa_nil))), fun Q => ?_⟩
    exact ⟨_, rfl, _, rfl, _, rfl, _, _, _, rfl, .inr ⟨⟨z, L, [122], [[0]], rfl, List.cons_ne_nil _ _, m2, Z, far_ne fL⟩, wish_o e⟩⟩
theorem tell_SC15 (Lb : Lib P w K mg base c C CB mc) {H' : Hp} {vW vSm vP vN : V} {m z o : Addr} {L : W} {tb tm : List (List Int)} {es : List Int} {xP : Str} (hD : DiceAt H' p) (bx : BoxAt CB H' o L tb) (mac : MacAt C H' m L tm es) (bz : BoxAt CB H' z [122] [[0]]) (fL : ovrB L [122] = false) (oW : OddW H' vW) (oP : OddNum (tb.length : Int) H' vP xP) (oN : OP H' vN) (oM : OddMs C H' vSm) (h1 : 1 ≤ tb.length) (h9 : tb.length ≤ 1000) : LamTell P w K mg base c p ["_law_word", "_law_some", "_law_place", "_law_one", "_law_none", "_law_far", "_law_box_here"] [vW, vSm, vP, .ref m, vN, .ref z, .ref o] H' qSC (callLam (nthS sSC 15)) "box" := by
  refine lam_tell (fr := ["_law_none", "_law_one"]) (vals := [vN, .ref m]) [4, 3] (nscope_by (by decide +kernel)) (by decide +kernel) rfl rfl (fun _ _ _ _ _ => rfl) (fun cl c' f A outer s H E hr b e => ?_)
  · have M := mac.bx b hD
    have Z := bz.bx b hD
    have B := bx.bx b hD
    have N := (oN.bx b hD).ov
    have m1 := ms_one M
    have m2 := ms_two M
    refine ⟨_, pe_has (E := E) Lb.isAlike (hr.mono (by decide)) (passes_call (takes_of rfl rfl rfl rfl) (fun _ _ _ _ h => h)) (pa_cons (pv 1) (pa_cons (pv 1) (pa_cons (pv 0) (pa_cons pe_non pa_nil)))), fun Q => ?_⟩
    exact ⟨_, rfl, _, rfl, _, rfl, _, _, _, _, rfl, .inl ⟨m2.all.or, .inr ⟨m2.all, N, wish_b e⟩⟩⟩
theorem tell_SC16 (Lb : Lib P w K mg base c C CB mc) {H' : Hp} {vW vSm vP vN : V} {m z o : Addr} {L : W} {tb tm : List (List Int)} {es : List Int} {xP : Str} (hD : DiceAt H' p) (bx : BoxAt CB H' o L tb) (mac : MacAt C H' m L tm es) (bz : BoxAt CB H' z [122] [[0]]) (fL : ovrB L [122] = false) (oW : OddW H' vW) (oP : OddNum (tb.length : Int) H' vP xP) (oN : OP H' vN) (oM : OddMs C H' vSm) (h1 : 1 ≤ tb.length) (h9 : tb.length ≤ 1000) : LamTell P w K mg base c p ["_law_word", "_law_some", "_law_place", "_law_one", "_law_none", "_law_far", "_law_box_here"] [vW, vSm, vP, .ref m, vN, .ref z, .ref o] H' qSC (callLam (nthS sSC 16)) "machine" := by
  refine lam_tell (fr := ["_law_box_here", "_law_none", "_law_one"]) (vals := [.ref o, vN, .ref m]) [6, 4, 3] (nscope_by (by decide +kernel)) (by decide +kernel) rfl rfl (fun _ _ _ _ _ => rfl) (fun cl c' f A outer s H E hr b e => ?_)
  · have M := mac.bx b hD
    have Z := bz.bx b hD
    have B := bx.bx b hD
    have N := (oN.bx b hD).ov
    have m1 := ms_one M
    have m2 := ms_two M
    refine ⟨_, pe_has (E := E) Lb.paper (hr.mono (by decide)) (passes_call (takes_of rfl rfl rfl rfl) (fun _ _ _ _ h => h)) (pa_cons (pv 2) (pa_cons (pv 1) (pa_cons (pv 0) pa_nil))), fun Q => ?_⟩
    exact ⟨_, rfl, _, rfl, _, rfl, _, _, _, rfl, .inl ⟨or_cons (.inr (m1.all _ (.head _))) (or_cons (.inl N) or_nil), .inl ⟨⟨_, .tail _ (.head _), N⟩, wish_m e⟩⟩⟩
theorem tell_SC17 (Lb : Lib P w K mg base c C CB mc) {H' : Hp} {vW vSm vP vN : V} {m z o : Addr} {L : W} {tb tm : List (List Int)} {es : List Int} {xP : Str} (hD : DiceAt H' p) (bx : BoxAt CB H' o L tb) (mac : MacAt C H' m L tm es) (bz : BoxAt CB H' z [122] [[0]]) (fL : ovrB L [122] = false) (oW : OddW H' vW) (oP : OddNum (tb.length : Int) H' vP xP) (oN : OP H' vN) (oM : OddMs C H' vSm) (h1 : 1 ≤ tb.length) (h9 : tb.length ≤ 1000) : LamTell P w K mg base c p ["_law_word", "_law_some", "_law_place", "_law_one", "_law_none", "_law_far", "_law_box_here"] [vW, vSm, vP, .ref m, vN, .ref z, .ref o] H' qSC (callLam (nthS sSC 17)) "operation" := by
  refine lam_tell (fr := ["_law_far", "_law_one"]) (vals := [.ref z, .ref m]) [5, 3] (nscope_by (by decide +kernel)) (by decide +kernel) rfl rfl (fun _ _ _ _ _ => rfl) (fun cl c' f A outer s H E hr b e => ?_)
  · have M := mac.bx b hD
    have Z := bz.bx b hD
    have B := bx.bx b hD
    have N := (oN.bx b hD).ov
    have m1 := ms_one M
    have m2 := ms_two M
    refine ⟨_, pe_has (E := E) Lb.isPaper (hr.mono (by decide)) (passes_call (takes_of rfl rfl rfl rfl) (fun _ _ _ _ h => h)) (pa_cons (pv 1) (pa_cons (pv 1) (pa_cons (pv 0) (pa_cons pe_non pa_nil)))), fun Q => ?_⟩
    exact ⟨_, rfl, _, rfl, _, rfl, _, _, _, _, rfl, .inr ⟨⟨z, L, [122], [[0]], rfl, List.cons_ne_nil _ _, m2, Z, far_ne fL⟩, wish_o e⟩⟩
theorem tell_SC18 (Lb : Lib P w K mg base c C CB mc) {H' : Hp} {vW vSm vP vN : V} {m z o : Addr} {L : W} {tb tm : List (List Int)} {es : List Int} {xP : Str} (hD : DiceAt H' p) (bx : BoxAt CB H' o L tb) (mac : MacAt C H' m L tm es) (bz : BoxAt CB H' z [122] [[0]]) (fL : ovrB L [122] = false) (oW : OddW H' vW) (oP : OddNum (tb.length : Int) H' vP xP) (oN : OP H' vN) (oM : OddMs C H' vSm) (h1 : 1 ≤ tb.length) (h9 : tb.length ≤ 1000) : LamTell P w K mg base c p ["_law_word", "_law_some", "_law_place", "_law_one", "_law_none", "_law_far", "_law_box_here"] [vW, vSm, vP, .ref m, vN, .ref z, .ref o] H' qSC (callLam (nthS sSC 18)) "word" := by
  refine lam_tell (fr := ["_law_box_here", "_law_one", "_law_word"]) (vals := [.ref o, .ref m, vW]) [6, 3, 0] (nscope_by (by decide +kernel)) (by decide +kernel) rfl rfl (fun _ _ _ _ _ => rfl) (fun cl c' f A outer s H E hr b e => ?_)
  · have M := mac.bx b hD
    have Z := bz.bx b hD
    have B := bx.bx b hD
    have N := (oN.bx b hD).ov
    have m1 := ms_one M
    have m2 := ms_two M
    refine ⟨_, pe_has (E := E) Lb.seen (hr.mono (by decide)) (passes_call (takes_of rfl rfl rfl rfl) (fun _ _ _ _ h => h)) (pa_cons (pv 1) (pa_cons (pv 0) (pa_cons (pv 2) pa_nil))), fun Q => ?_⟩
    exact ⟨_, rfl, _, rfl, _, rfl, _, _, _, rfl, .inr ⟨tb.length, ⟨o, L, tb, rfl, m1.all, B, rfl, h9⟩, (oW.bx b hD).badW, wish_w e⟩⟩
theorem tell_SC19 (Lb : Lib P w K mg base c C CB mc) {H' : Hp} {vW vSm vP vN : V} {m z o : Addr} {L : W} {tb tm : List (List Int)} {es : List Int} {xP : Str} (hD : DiceAt H' p) (bx : BoxAt CB H' o L tb) (mac : MacAt C H' m L tm es) (bz : BoxAt CB H' z [122] [[0]]) (fL : ovrB L [122] = false) (oW : OddW H' vW) (oP : OddNum (tb.length : Int) H' vP xP) (oN : OP H' vN) (oM : OddMs C H' vSm) (h1 : 1 ≤ tb.length) (h9 : tb.length ≤ 1000) : LamTell P w K mg base c p ["_law_word", "_law_some", "_law_place", "_law_one", "_law_none", "_law_far", "_law_box_here"] [vW, vSm, vP, .ref m, vN, .ref z, .ref o] H' qSC (callLam (nthS sSC 19)) "machine" := by
  refine lam_tell (fr := ["_law_none", "_law_word"]) (vals := [vN, vW]) [4, 0] (nscope_by (by decide +kernel)) (by decide +kernel) rfl rfl (fun _ _ _ _ _ => rfl) (fun cl c' f A outer s H E hr b e => ?_)
  · have M := mac.bx b hD
    have Z := bz.bx b hD
    have B := bx.bx b hD
    have N := (oN.bx b hD).ov
    have m1 := ms_one M
    have m2 := ms_two M
    refine ⟨_, pe_has (E := E) Lb.seen (hr.mono (by decide)) (passes_call (takes_of rfl rfl rfl rfl) (fun _ _ _ _ h => h)) (pa_cons (pv 0) (pa_cons (pv 0) (pa_cons (pv 1) pa_nil))), fun Q => ?_⟩
    exact ⟨_, rfl, _, rfl, _, rfl, _, _, _, rfl, .inl ⟨or_cons (.inl N) or_nil, .inl ⟨⟨_, .head _, N⟩, wish_m e⟩⟩⟩
theorem tell_SC20 (Lb : Lib P w K mg base c C CB mc) {H' : Hp} {vW vSm vP vN : V} {m z o : Addr} {L : W} {tb tm : List (List Int)} {es : List Int} {xP : Str} (hD : DiceAt H' p) (bx : BoxAt CB H' o L tb) (mac : MacAt C H' m L tm es) (bz : BoxAt CB H' z [122] [[0]]) (fL : ovrB L [122] = false) (oW : OddW H' vW) (oP : OddNum (tb.length : Int) H' vP xP) (oN : OP H' vN) (oM : OddMs C H' vSm) (h1 : 1 ≤ tb.length) (h9 : tb.length ≤ 1000) : LamTell P w K mg base c p ["_law_word", "_law_some", "_law_place", "_law_one", "_law_none", "_law_far", "_law_box_here"] [vW, vSm, vP, .ref m, vN, .ref z, .ref o] H' qSC (callLam (nthS sSC 20)) "box" := by
  refine lam_tell (fr := ["_law_none", "_law_some", "_law_word"]) (vals := [vN, vSm, vW]) [4, 1, 0] (nscope_by (by decide +kernel)) (by decide +kernel) rfl rfl (fun _ _ _ _ _ => rfl) (fun cl c' f A outer s H E hr b e => ?_)
  · have M := mac.bx b hD
    have Z := bz.bx b hD
    have B := bx.bx b hD
    have N := (oN.bx b hD).ov
    have m1 := ms_one M
    have m2 := ms_two M
    refine ⟨_, pe_has (E := E) Lb.guess (hr.mono (by decide)) (passes_call (takes_of rfl rfl rfl rfl) (fun _ _ _ _ h => h)) (pa_cons (pv 0) (pa_cons (pv 1) (pa_cons (pv 2) pa_nil))), fun Q => ?_⟩
    exact ⟨_, rfl, _, rfl, _, rfl, _, _, _, rfl, .inl ⟨N, wish_b e⟩⟩
theorem tell_SC21 (Lb : Lib P w K mg base c C CB mc) {H' : Hp} {vW vSm vP vN : V} {m z o : Addr} {L : W} {tb tm : List (List Int)} {es : List Int} {xP : Str} (hD : DiceAt H' p) (bx : BoxAt CB H' o L tb) (mac : MacAt C H' m L tm es) (bz : BoxAt CB H' z [122] [[0]]) (fL : ovrB L [122] = false) (oW : OddW H' vW) (oP : OddNum (tb.length : Int) H' vP xP) (oN : OP H' vN) (oM : OddMs C H' vSm) (h1 : 1 ≤ tb.length) (h9 : tb.length ≤ 1000) : LamTell P w K mg base c p ["_law_word", "_law_some", "_law_place", "_law_one", "_law_none", "_law_far", "_law_box_here"] [vW, vSm, vP, .ref m, vN, .ref z, .ref o] H' qSC (callLam (nthS sSC 21)) "machine" := by
  refine lam_tell (fr := ["_law_box_here", "_law_some", "_law_word"]) (vals := [.ref o, vSm, vW]) [6, 1, 0] (nscope_by (by decide +kernel)) (by decide +kernel) rfl rfl (fun _ _ _ _ _ => rfl) (fun cl c' f A outer s H E hr b e => ?_)
  · have M := mac.bx b hD
    have Z := bz.bx b hD
    have B := bx.bx b hD
    have N := (oN.bx b hD).ov
    have m1 := ms_one M
    have m2 := ms_two M
    refine ⟨_, pe_has (E := E) Lb.guess (hr.mono (by decide)) (passes_call (takes_of rfl rfl rfl rfl) (fun _ _ _ _ h => h)) (pa_cons (pv 0) (pa_cons (pv 1) (pa_cons (pv 2) pa_nil))), fun Q => ?_⟩
    exact ⟨_, rfl, _, rfl, _, rfl, _, _, _, rfl, .inr ⟨⟨o, L, tb, rfl, B⟩, .inl ⟨(oM.bx b hD).bad, wish_m e⟩⟩⟩
theorem tell_SC22 (Lb : Lib P w K mg base c C CB mc) {H' : Hp} {vW vSm vP vN : V} {m z o : Addr} {L : W} {tb tm : List (List Int)} {es : List Int} {xP : Str} (hD : DiceAt H' p) (bx : BoxAt CB H' o L tb) (mac : MacAt C H' m L tm es) (bz : BoxAt CB H' z [122] [[0]]) (fL : ovrB L [122] = false) (oW : OddW H' vW) (oP : OddNum (tb.length : Int) H' vP xP) (oN : OP H' vN) (oM : OddMs C H' vSm) (h1 : 1 ≤ tb.length) (h9 : tb.length ≤ 1000) : LamTell P w K mg base c p ["_law_word", "_law_some", "_law_place", "_law_one", "_law_none", "_law_far", "_law_box_here"] [vW, vSm, vP, .ref m, vN, .ref z, .ref o] H' qSC (callLam (nthS sSC 22)) "word" := by
  refine lam_tell (fr := ["_law_box_here", "_law_one", "_law_word"]) (vals := [.ref o, .ref m, vW]) [6, 3, 0] (nscope_by (by decide +kernel)) (by decide +kernel) rfl rfl (fun _ _ _ _ _ => rfl) (fun cl c' f A outer s H E hr b e => ?_)
  · have M := mac.bx b hD
    have Z := bz.bx b hD
    have B := bx.bx b hD
    have N := (oN.bx b hD).ov
    have m1 := ms_one M
    have m2 := ms_two M
    refine ⟨_, pe_has (E := E) Lb.guess (hr.mono (by decide)) (passes_call (takes_of rfl rfl rfl rfl) (fun _ _ _ _ h => h)) (pa_cons (pv 0) (pa_cons (pe_tup (pa_cons (pv 1) pa_nil)) (pa_cons (pv 2) pa_nil))), fun Q => ?_⟩
    refine ⟨_, rfl, _, rfl, by rw [sizeLine_eq]; simp only [List.length_cons, List.length_nil]; omega, fun t ht => ?_⟩
    have s1 := same_upd (o := .tup [.ref m]) ht
    exact ⟨_, rfl, _, _, _, rfl, .inr ⟨⟨o, L, tb, rfl, B.same s1⟩, .inr ⟨t, [.ref m], rfl, SqT.of upd_same, Nat.le_refl 1, (by show (1 : Nat) ≤ 8; decide), m1.all.same s1, (oW.bx b hD).badW.same s1, (wish_w e).to s1⟩⟩⟩
theorem tell_SC23 (Lb : Lib P w K mg base c C CB mc) {H' : Hp} {vW vSm vP vN : V} {m z o : Addr} {L : W} {tb tm : List (List Int)} {es : List Int} {xP : Str} (hD : DiceAt H' p) (bx : BoxAt CB H' o L tb) (mac : MacAt C H' m L tm es) (bz : BoxAt CB H' z [122] [[0]]) (fL : ovrB L [122] = false) (oW : OddW H' vW) (oP : OddNum (tb.length : Int) H' vP xP) (oN : OP H' vN) (oM : OddMs C H' vSm) (h1 : 1 ≤ tb.length) (h9 : tb.length ≤ 1000) : LamTell P w K mg base c p ["_law_word", "_law_some", "_law_place", "_law_one", "_law_none", "_law_far", "_law_box_here"] [vW, vSm, vP, .ref m, vN, .ref z, .ref o] H' qSC (callLam (nthS sSC 23)) "machine" := by
  refine lam_tell (fr := ["_law_box_here", "_law_some"]) (vals := [.ref o, vSm]) [6, 1] (nscope_by (by decide +kernel)) (by decide +kernel) rfl rfl (fun _ _ _ _ _ => rfl) (fun cl c' f A outer s H E hr b e => ?_)
  · have M := mac.bx b hD
    have Z := bz.bx b hD
    have B := bx.bx b hD
    have N := (oN.bx b hD).ov
    have m1 := ms_one M
    have m2 := ms_two M
    refine ⟨_, pe_has (E := E) Lb.groups (hr.mono (by decide)) (passes_call (takes_of rfl rfl rfl rfl) (fun _ _ _ _ h => h)) (pa_cons (pv 0) (pa_cons (pv 1) pa_nil)), fun Q => ?_⟩
    exact ⟨_, rfl, _, rfl, _, _, rfl, ⟨o, L, tb, rfl, B⟩, .inl ⟨(oM.bx b hD).bad, wish_m e⟩⟩
theorem tell_SC24 (Lb : Lib P w K mg base c C CB mc) {H' : Hp} {vW vSm vP vN : V} {m z o : Addr} {L : W} {tb tm : List (List Int)} {es : List Int} {xP : Str} (hD : DiceAt H' p) (bx : BoxAt CB H' o L tb) (mac : MacAt C H' m L tm es) (bz : BoxAt CB H' z [122] [[0]]) (fL : ovrB L [122] = false) (oW : OddW H' vW) (oP : OddNum (tb.length : Int) H' vP xP) (oN : OP H' vN) (oM : OddMs C H' vSm) (h1 : 1 ≤ tb.length) (h9 : tb.length ≤ 1000) : LamTell P w K mg base c p ["_law_word", "_law_some", "_law_place", "_law_one", "_law_none", "_law_far", "_law_box_here"] [vW, vSm, vP, .ref m, vN, .ref z, .ref o] H' qSC (callLam (nthS sSC 24)) "operation" := by
  refine lam_tell (fr := ["_law_far", "_law_one"]) (vals := [.ref z, .ref m]) [5, 3] (nscope_by (by decide +kernel)) (by decide +kernel) rfl rfl (fun _ _ _ _ _ => rfl) (fun cl c' f A outer s H E hr b e => ?_)
  · have M := mac.bx b hD
    have Z := bz.bx b hD
    have B := bx.bx b hD
    have N := (oN.bx b hD).ov
    have m1 := ms_one M
    have m2 := ms_two M
    refine ⟨_, pe_has (E := E) Lb.groups (hr.mono (by decide)) (passes_call (takes_of rfl rfl rfl rfl) (fun _ _ _ _ h => h)) (pa_cons (pv 0) (pa_cons (pe_tup (pa_cons (pv 1) pa_nil)) pa_nil)), fun Q => ?_⟩
    refine ⟨_, rfl, _, rfl, by rw [sizeLine_eq]; simp only [List.length_cons, List.length_nil]; omega, fun t ht => ?_⟩
    have s1 := same_upd (o := .tup [.ref m]) ht
    exact ⟨_, _, rfl, ⟨z, [122], [[0]], rfl, Z.same s1⟩, .inr ⟨t, [.ref m], rfl, SqT.of upd_same, Nat.le_refl 1, (by show (1 : Nat) ≤ 8; decide), ⟨z, L, [122], [[0]], rfl, List.cons_ne_nil _ _, m1.same s1, Z.same s1, far_ne fL⟩, (wish_o e).to s1⟩⟩
end
end WK
set_option Elab.async false
set_option linter.all false
set_option maxRecDepth 100000
set_option maxHeartbeats 8000000
namespace WK
open PySem L2 PyProof.Rows LCX K1 FV LamX NdefX RM
open TX (sg sigs)
open PySem.W (Frag kitOne)
/-- the list at a while it grows: what was told at G0 stands -/
def Inv5 (q : Str) (cl0 : List (Str × Addr)) (T : List (Addr × Str)) (G0 : Hp) (a : Addr) (H : Hp) (ls : List (Expr × Str)) : Prop := ∃ vs, H a = some (.lst vs) ∧ Its q cl0 H vs ls ∧ Tabs T H ∧ ExtN G0 H
theorem Its.len {q : Str} {cl0 : List (Str × Addr)} {H : Hp} : ∀ {vs : List V} {ls : List (Expr × Str)}, Its q cl0 H vs ls → vs.length = ls.length
  | [], [], _ => rfl
  | _ :: _, _ :: _, h => congrArg Nat.succ h.2.len
  | [], _ :: _, h => h.elim
  | _ :: _, [], h => h.elim
theorem app_step {q : Str} {cl0 : List (Str × Addr)} {T : List (Addr × Str)} {i : Nat} {l : Expr} {td : TE} {D : Ends} {σ : L2.St} {H G0 : Hp} {a : Addr} {ls : List (Expr × Str)} {due : Str} (ea : σ[i]? = some (some (.ref a))) (na : G0 a = none) (inv : Inv5 q cl0 T G0 a H ls) (few : ls.length ≤ 1000)
    (hd : ∀ H1 Q, ExtN G0 H1 → Q (.str due) H1 → td σ H1 Q) (next : ∀ H', Inv5 q cl0 T G0 a H' (ls ++ [(l, due)]) → D.nx σ H') : tAppLam q cl0 T i l td D σ H := by
  obtain ⟨vs, h1, its, tb, ex⟩ := inv
  refine ⟨a, vs, ls, due, ea, h1, by rw [its.len]; exact few, its, tb, fun H1 Q e q => hd H1 Q (ex.trans e) q, fun H' x h2 i2 t2 k _ => next H' ⟨_, h2, i2, t2, fun b o e n => ?_⟩⟩
  exact k b o (ex b o e n) (fun z => by rw [z, na] at e; cases e) n
/-- the list begins with one call -/
def tFirst (q : Str) (cl0 : List (Str × Addr)) (T : List (Addr × Str)) (i : Nat) (l : Expr) (td : TE) : TS := fun D σ H => ∃ due : Str, Tabs T H ∧ (∀ H1 Q, ExtN H H1 → Q (.str due) H1 → td σ H1 Q) ∧ ∀ a H', H a = none → Inv5 q cl0 T H a H' [(l, due)] → D.nx (σ.set i (some (.ref a))) H'
theorem ps_first {X : Cx} {T : List (Addr × Str)} {c P : Addr} {st : Stmt} {due : Expr} {td : TE} {i : Nat} {x : Str} {x1 : _} {p1 p3 p4 p5 pl : Pos} (hst : st = .Assign [.Name x p1] (.List [.Tuple [.Lambda (lamPar (callLam st)) (lamBody (callLam st)) (lamSc (callLam st)) pl, due] x1 p3] p4) p5)
    (TB : TabB X.base X.mg c P) (code : X.env.code = .ref c) (mem : (P, X.env.qual ++ "<lambda>") ∈ T) (uniq : ∀ p ∈ T, p.1 = P → p.2 = X.env.qual ++ "<lambda>") (plain : defaultsOf (lamPar (callLam st)) X.env = ([], []))
    (taken : X.Ok → ∀ y ∈ (lamSc (callLam st)).names, y.2 = .free → ∃ c, X.env.cells.lookup y.1 = some c)
    (mk : PE X (.Lambda (lamPar (callLam st)) (lamBody (callLam st)) (lamSc (callLam st)) pl) (tLamV X T (lamPar (callLam st)) (lamBody (callLam st)) (lamSc (callLam st))) → PS X (.Assign [.Name x p1] (.List [.Tuple [.Lambda (lamPar (callLam st)) (lamBody (callLam st)) (lamSc (callLam st)) pl, due] x1 p3] p4) p5)
      (tAsg (tLst (tCons (tTup (tCons (tLamV X T (lamPar (callLam st)) (lamBody (callLam st)) (lamSc (callLam st))) (tCons td tNil))) tNil)) (gName i))) : PS X st (tFirst (X.env.qual ++ "<lambda>") X.env.cells T i (callLam st) td) := by
  have base := mk (pe_lamV TB code mem uniq plain taken)
  rw [← hst] at base
  refine ps_imp base fun D σ H ⟨dw, tabs, dueR, q⟩ => ?_
  refine ⟨tabs, fun f c' H1 nf gr hf hc => dueR H1 _ gr.1 ⟨by rw [sizeLine_eq]; simp only [List.length_cons, List.length_nil]; omega, fun t ht => ⟨by rw [sizeLine_eq]; simp only [List.length_cons, List.length_nil]; omega, fun a ha => ?_⟩⟩⟩
  have s2 := same_upd (o := .tup [.ref f, .str dw]) ht
  have s3 := same_two s2 (o := .lst [.ref t]) ha
  have na : H a = none := gr.2.2 a (s2.free ha)
  refine q a _ na ⟨[.ref t], upd_same, ⟨⟨t, f, c', rfl, same_upd ha _ _ upd_same, s3 _ _ hf, s3 _ _ hc⟩, trivial⟩, gr.2.1.ext s3, fun b o e n => s3 _ _ (gr.1 _ _ e n)⟩
section
variable {cs : Cs} {H : Hp}
theorem on_at (n : ∀ p ∈ cs, H p.1 = none) {a : Addr} {o : HO} (e : H a = some o) : onn cs H a = some o := by
  rw [onn_out fun z => by obtain ⟨p, hp, rfl⟩ := List.mem_map.mp z; rw [n p hp] at e; cases e]
  exact e
theorem dice_on {p : Addr} (n : ∀ p ∈ cs, H p.1 = none) (d : DiceAt H p) : DiceAt (onn cs H) p := d.keep fun _ e => on_at n e
end
theorem DiceAt.ext {H H' : Hp} {p : Addr} (d : DiceAt H p) (e : ExtN H H') : DiceAt H' p := d.keep fun o h => e _ _ h fun ps z => by
  obtain ⟨_, _, _, q, _⟩ := d
  rw [z, q] at h
  cases h
/-- what a def gives that makes calls -/
def CallsOut (P : Program) (w : World) (K : Frag) (mg : Str → Option Value) (base : Heap) (c : ErrC) (T : List (Addr × Str)) (p : Addr) (H : Hp) (Q : VK) : Prop := ∀ (l : Addr) (vs : List V) (H' : Hp), H' l = some (.lst vs) → vs.length ≤ 100 → Calls P w K mg base c p H' vs → DiceAt H' p → ButT p H H' → Tabs T H' → Q (.ref l) H'
theorem calls_out {P : Program} {w : World} {K : Frag} {mg : Str → Option Value} {base : Heap} {c : ErrC} {T : List (Addr × Str)} {p a : Addr} {q : Str} {cl0 : List (Str × Addr)} {H G0 G : Hp} {Q : VK} {ls : List (Expr × Str)} {fr0 : List Str} {vals0 : List V} {cs : Cs} (out : CallsOut P w K mg base c T p H Q) (b : ButT p H G0) (d : DiceAt G0 p) (inv : Inv5 q cl0 T G0 a G ls) (few : ls.length ≤ 100) (ft : Fits cl0 fr0 cs vals0) (n : ∀ p ∈ cs, G p.1 = none)
    (k : DiceAt G p → ExtN G0 G → ∀ x ∈ ls, LamTell P w K mg base c p fr0 vals0 G q x.1 x.2 ∧ PyData.canLay0 (.str x.2) = true) : Q (.ref a) (onn cs G) := by
  obtain ⟨vs, h1, its, tb, ex⟩ := inv
  have dG := d.ext ex
  refine out a vs _ (on_at n h1) (by rw [its.len]; exact few) (its.calls ft n dG (k dG ex)) (dice_on n dG) (fun b' o e n1 n2 => on_at n (ex _ _ (b b' o e n1 n2) n2)) (tb.ext fun _ _ e => on_at n e)
theorem lay_num {x : Str} (h : PyData.canLay0 (.str x) = true) : PyData.canLay0 (.str ("number " ++ x)) = true := by
  have h : x.cps.all (fun c => decide (c < 1114112)) = true := h
  show (("number " : Str).cps ++ x.cps).all _ = true
  rw [Array.all_append]
  exact Bool.and_eq_true_iff.mpr ⟨by decide +kernel, h⟩
end WK
set_option Elab.async false
set_option linter.all false
set_option maxRecDepth 100000
set_option maxHeartbeats 8000000
namespace WK
open PySem L2 PyProof.Rows LCX K1 FV LamX NdefX RM
open TX (sg sigs)
open PySem.W (Frag kitOne)
abbrev NMC : List Str := ["_law_dice_here", "_law_letters", "_law_size", "_law_calls"]
def spMC (P : Program) (w : World) (K : Frag) (mg : Str → Option Value) (base : Heap) (c : ErrC) (T : List (Addr × Str)) : Sp := fun vs H Q _ => ∃ p, vs = [.ref p] ∧ DiceAt H p ∧ Tabs T H ∧ CallsOut P w K mg base c T p H Q
theorem scMC : FnScope NMC ["_law_dice_here"] (defScope sMC) := ⟨rfl, rfl, rfl, by decide +kernel, rfl, by decide +kernel, by decide +kernel⟩
theorem numB_big {i B : Int} (h : B ≤ i) {lo hi : Int} (h2 : hi < B) : numB (.int i) lo hi = false := by
  show (decide (lo ≤ i) && decide (i ≤ hi)) = false
  rw [decide_eq_false (show ¬ i ≤ hi by omega), Bool.and_false]
theorem numB_neg {lo hi : Int} (h : 0 ≤ lo) : numB (.int (-1)) lo hi = false := by
  show (decide (lo ≤ -1) && decide (-1 ≤ hi)) = false
  rw [decide_eq_false (show ¬ lo ≤ -1 by omega), Bool.false_and]
theorem shw_neg {H : Hp} : Shw H (.int (-1)) ((toString (-1 : Int) : String) : Str) := .int _ (by decide +kernel) (by decide +kernel) (by decide +kernel)
section
variable {P : Program} {w : World} {K : Frag} {mg : Str → Option Value} {base : Heap} {c : ErrC} {C CB fO cM PM : Addr} {dO : FuncData} {mc : Value} {T : List (Addr × Str)}
theorem ok_mc {f : Addr} {oc kV doc pm ct : Value} {an od : Option Addr} {osl : Array (Option Value)} (lk : K.lookup f = some ⟨oc, od, .func (PySem.W.fnOf "_law_made_calls" "_law_made_calls" (defArgs sMC) (defBody sMC) (defScope sMC) .none kV doc pm an (.ref cM) ct), osl⟩) (hcd : PySem.W.codeIn K (.ref cM) "_law_made_calls" = true)
    (Lb : Lib P w K mg base c C CB mc) (TB : TabB base mg cM PM) (mem : (PM, qMC) ∈ T) (uniq : ∀ p ∈ T, p.1 = PM → p.2 = qMC) (rp : mg "repr" = none) (AO : Fn K mg "_law_one_of" sOne ["_law_dice_here", "_law_items"] fO dO) (GO : FnOk P w K mg base CX0 2 fO dO ["_law_dice_here", "_law_items"] spOne) :
    WG.FnG P w K mg base 4 f (PySem.W.fnOf "_law_made_calls" "_law_made_calls" (defArgs sMC) (defBody sMC) (defScope sMC) .none kV doc pm an (.ref cM) ct) ["_law_dice_here"] (spMC P w K mg base c T) := by
  refine okGC (fr := ["_law_size", "_law_letters"]) (js := [2, 1]) lk hcd scMC (by decide +kernel) (by decide +kernel) (by decide +kernel) rfl (fun vs H Q E h => ?_) (fun A outer s H vs Q E hr hg h => ?_)
  · obtain ⟨p, rfl, _⟩ := h
    rfl
  · obtain ⟨p, rfl, hD, hT, out⟩ := h
    have hr2 : Room 2 _ := hr.mono (by decide)
    have hu : (A.deeper (envOfC "_law_made_calls" (defScope sMC) s.heap.objs.size f (.ref cM))).units + 100 < cLine := by
      have := hr.un
      omega
    refine ⟨_, psz_cons (ps_set (i := 1) scMC.nd rfl (Or.inr rfl) (pe_call GO hr2 rfl AO.g AO.F.kp AO.b .nil pass0 (pa_cons (pv 0) (pa_cons (pe_lst (pa_cons pe_non (pa_cons pe_int (pa_cons pe_str (pa_cons pe_str (pa_cons pe_str (pa_cons pe_str (pa_cons pe_str (pa_cons (pe_tup (pa_cons pe_str pa_nil)) (pa_cons (pe_lst pa_nil) (pa_cons pe_dnewK (pa_cons pe_bl pa_nil)))))))))))) pa_nil))))
      (psz_cons (ps_set (i := 2) scMC.nd rfl (Or.inr rfl) (pe_call GO hr2 rfl AO.g AO.F.kp AO.b .nil pass0 (pa_cons (pv 0) (pa_cons (pe_lst (pa_cons pe_non (pa_cons (pe_un un_neg pe_int) (pa_cons pe_bl (pa_cons pe_str (pa_cons (pe_tup pa_nil) (pa_cons (pe_lst pa_nil) (pa_cons pe_dnewK (pa_cons (pe_op op_pow pe_int pe_int) pa_nil))))))))) pa_nil))))
      (psz_cons (ps_first (st := nthS sMC 2) (T := T) (i := 3) rfl TB rfl mem uniq rfl (fun ok y hy e => ok.has _ (.inl ((by decide +kernel : ∀ y ∈ (lamSc (callLam (nthS sMC 2))).names, y.2 = .free → (defScope sMC).names.lookup y.1 = some .cell) y hy e))) (fun hL => ps_set (i := 3) scMC.nd rfl (Or.inl rfl) (pe_lst (pa_cons (pe_tup (pa_cons hL (pa_cons pe_str pa_nil))) pa_nil))))
      (psz_cons (ps_app (st := nthS sMC 3) (T := T) (i := 3) rfl TB rfl mem uniq rfl (fun ok y hy e => ok.has _ (.inl ((by decide +kernel : ∀ y ∈ (lamSc (callLam (nthS sMC 3))).names, y.2 = .free → (defScope sMC).names.lookup y.1 = some .cell) y hy e))) (fun hL => pe_bm PySem.F.plainAttrs_list PySem.F.slot_list_append PySem.F.type_list_append mt_append (pv 3) (pa_cons (pe_tup (pa_cons hL (pa_cons pe_str pa_nil))) pa_nil)) rfl)
      (psz_cons (ps_app (st := nthS sMC 4) (T := T) (i := 3) rfl TB rfl mem uniq rfl (fun ok y hy e => ok.has _ (.inl ((by decide +kernel : ∀ y ∈ (lamSc (callLam (nthS sMC 4))).names, y.2 = .free → (defScope sMC).names.lookup y.1 = some .cell) y hy e))) (fun hL => pe_bm PySem.F.plainAttrs_list PySem.F.slot_list_append PySem.F.type_list_append mt_append (pv 3) (pa_cons (pe_tup (pa_cons hL (pa_cons (pe_op op_add_str pe_str (pe_callB (call_reprV hg hu) (by rfl) rp (by decide +kernel) (pa_cons (pv 2) pa_nil))) pa_nil))) pa_nil)) rfl)
      (psz_cons (ps_app (st := nthS sMC 5) (T := T) (i := 3) rfl TB rfl mem uniq rfl (fun ok y hy e => ok.has _ (.inl ((by decide +kernel : ∀ y ∈ (lamSc (callLam (nthS sMC 5))).names, y.2 = .free → (defScope sMC).names.lookup y.1 = some .cell) y hy e))) (fun hL => pe_bm PySem.F.plainAttrs_list PySem.F.slot_list_append PySem.F.type_list_append mt_append (pv 3) (pa_cons (pe_tup (pa_cons hL (pa_cons pe_str pa_nil))) pa_nil)) rfl)
      (psz_cons (ps_app (st := nthS sMC 6) (T := T) (i := 3) rfl TB rfl mem uniq rfl (fun ok y hy e => ok.has _ (.inl ((by decide +kernel : ∀ y ∈ (lamSc (callLam (nthS sMC 6))).names, y.2 = .free → (defScope sMC).names.lookup y.1 = some .cell) y hy e))) (fun hL => pe_bm PySem.F.plainAttrs_list PySem.F.slot_list_append PySem.F.type_list_append mt_append (pv 3) (pa_cons (pe_tup (pa_cons hL (pa_cons (pe_op op_add_str pe_str (pe_callB (call_reprV hg hu) (by rfl) rp (by decide +kernel) (pa_cons (pv 2) pa_nil))) pa_nil))) pa_nil)) rfl)
      (psz_cons (ps_app (st := nthS sMC 7) (T := T) (i := 3) rfl TB rfl mem uniq rfl (fun ok y hy e => ok.has _ (.inl ((by decide +kernel : ∀ y ∈ (lamSc (callLam (nthS sMC 7))).names, y.2 = .free → (defScope sMC).names.lookup y.1 = some .cell) y hy e))) (fun hL => pe_bm PySem.F.plainAttrs_list PySem.F.slot_list_append PySem.F.type_list_append mt_append (pv 3) (pa_cons (pe_tup (pa_cons hL (pa_cons pe_str pa_nil))) pa_nil)) rfl)
      (psz_cons (ps_app (st := nthS sMC 8) (T := T) (i := 3) rfl TB rfl mem uniq rfl (fun ok y hy e => ok.has _ (.inl ((by decide +kernel : ∀ y ∈ (lamSc (callLam (nthS sMC 8))).names, y.2 = .free → (defScope sMC).names.lookup y.1 = some .cell) y hy e))) (fun hL => pe_bm PySem.F.plainAttrs_list PySem.F.slot_list_append PySem.F.type_list_append mt_append (pv 3) (pa_cons (pe_tup (pa_cons hL (pa_cons pe_str pa_nil))) pa_nil)) rfl)
      (psz_cons (ps_app (st := nthS sMC 9) (T := T) (i := 3) rfl TB rfl mem uniq rfl (fun ok y hy e => ok.has _ (.inl ((by decide +kernel : ∀ y ∈ (lamSc (callLam (nthS sMC 9))).names, y.2 = .free → (defScope sMC).names.lookup y.1 = some .cell) y hy e))) (fun hL => pe_bm PySem.F.plainAttrs_list PySem.F.slot_list_append PySem.F.type_list_append mt_append (pv 3) (pa_cons (pe_tup (pa_cons hL (pa_cons pe_str pa_nil))) pa_nil)) rfl)
      (psz_cons (ps_app (st := nthS sMC 10) (T := T) (i := 3) rfl TB rfl mem uniq rfl (fun ok y hy e => ok.has _ (.inl ((by decide +kernel : ∀ y ∈ (lamSc (callLam (nthS sMC 10))).names, y.2 = .free → (defScope sMC).names.lookup y.1 = some .cell) y hy e))) (fun hL => pe_bm PySem.F.plainAttrs_list PySem.F.slot_list_append PySem.F.type_list_append mt_append (pv 3) (pa_cons (pe_tup (pa_cons hL (pa_cons (pe_op op_add_str pe_str (pe_callB (call_reprV hg hu) (by rfl) rp (by decide +kernel) (pa_cons (pv 2) pa_nil))) pa_nil))) pa_nil)) rfl)
      (psz_cons (ps_app (st := nthS sMC 11) (T := T) (i := 3) rfl TB rfl mem uniq rfl (fun ok y hy e => ok.has _ (.inl ((by decide +kernel : ∀ y ∈ (lamSc (callLam (nthS sMC 11))).names, y.2 = .free → (defScope sMC).names.lookup y.1 = some .cell) y hy e))) (fun hL => pe_bm PySem.F.plainAttrs_list PySem.F.slot_list_append PySem.F.type_list_append mt_append (pv 3) (pa_cons (pe_tup (pa_cons hL (pa_cons pe_str pa_nil))) pa_nil)) rfl)
      (psz_cons (ps_app (st := nthS sMC 12) (T := T) (i := 3) rfl TB rfl mem uniq rfl (fun ok y hy e => ok.has _ (.inl ((by decide +kernel : ∀ y ∈ (lamSc (callLam (nthS sMC 12))).names, y.2 = .free → (defScope sMC).names.lookup y.1 = some .cell) y hy e))) (fun hL => pe_bm PySem.F.plainAttrs_list PySem.F.slot_list_append PySem.F.type_list_append mt_append (pv 3) (pa_cons (pe_tup (pa_cons hL (pa_cons pe_str pa_nil))) pa_nil)) rfl)
      (psz_cons (ps_app (st := nthS sMC 13) (T := T) (i := 3) rfl TB rfl mem uniq rfl (fun ok y hy e => ok.has _ (.inl ((by decide +kernel : ∀ y ∈ (lamSc (callLam (nthS sMC 13))).names, y.2 = .free → (defScope sMC).names.lookup y.1 = some .cell) y hy e))) (fun hL => pe_bm PySem.F.plainAttrs_list PySem.F.slot_list_append PySem.F.type_list_append mt_append (pv 3) (pa_cons (pe_tup (pa_cons hL (pa_cons pe_str pa_nil))) pa_nil)) rfl)
      (psz_cons (ps_app (st := nthS sMC 14) (T := T) (i := 3) rfl TB rfl mem uniq rfl (fun ok y hy e => ok.has _ (.inl ((by decide +kernel : ∀ y ∈ (lamSc (callLam (nthS sMC 14))).names, y.2 = .free → (defScope sMC).names.lookup y.1 = some .cell) y hy e))) (fun hL => pe_bm PySem.F.plainAttrs_list PySem.F.slot_list_append PySem.F.type_list_append mt_append (pv 3) (pa_cons (pe_tup (pa_cons hL (pa_cons (pe_op op_add_str pe_str (pe_callB (call_reprV hg hu) (by rfl) rp (by decide +kernel) (pa_cons (pv 2) pa_nil))) pa_nil))) pa_nil)) rfl)
      (psz_cons (ps_app (st := nthS sMC 15) (T := T) (i := 3) rfl TB rfl mem uniq rfl (fun ok y hy e => ok.has _ (.inl ((by decide +kernel : ∀ y ∈ (lamSc (callLam (nthS sMC 15))).names, y.2 = .free → (defScope sMC).names.lookup y.1 = some .cell) y hy e))) (fun hL => pe_bm PySem.F.plainAttrs_list PySem.F.slot_list_append PySem.F.type_list_append mt_append (pv 3) (pa_cons (pe_tup (pa_cons hL (pa_cons pe_str pa_nil))) pa_nil)) rfl)
      (psz_ret (pv 3))))))))))))))))), ?_⟩
    refine ⟨_, rfl, by rw [sizeLine_eq]; simp only [List.length_cons, List.length_nil]; omega, fun t ht => ⟨by rw [sizeLine_eq]; simp only [List.length_cons, List.length_nil]; omega, fun l hl d hd => ⟨by rw [sizeLine_eq]; simp only [List.length_cons, List.length_nil]; omega, fun a ha => ?_⟩⟩⟩
    have s1 := same_upd (o := .tup [.str "a"]) ht
    have s2 := same_two s1 (o := .lst []) hl
    have s3 := same_two s2 (o := .dK []) hd
    have e1 := same_upd hd (o := .dK []) _ _ (same_upd hl (o := .lst []) _ _ (upd_same (H := H) (a := t) (o := .tup [.str "a"])))
    have e2 := same_upd hd (o := .dK []) _ _ (upd_same (H := upd H t (.tup [.str "a"])) (a := l) (o := .lst []))
    have e3 := upd_same (H := upd (upd H t (.tup [.str "a"])) l (.lst [])) (a := d) (o := .dK [])
    generalize upd (upd (upd H t (.tup [.str "a"])) l (.lst [])) d (.dK []) = G1 at s3 e1 e2 e3 ha ⊢
    have d1 : DiceAt G1 p := hD.keep fun _ e => s3 _ _ e
    refine ⟨p, a, _, rfl, d1.new ha, d1.ne ha, upd_same, by simp only [List.length_cons, List.length_nil]; omega, by simp only [List.length_cons, List.length_nil]; omega, fun vL H1 hv d2 b2 => ?_⟩
    have bt1 : ButT p H H1 := ButT.ofBut ((But.ofSame (s3.trans (same_upd ha))).trans b2)
    have T1 : Tabs T H1 := tabs_but ((hT.ext s3).ext (same_upd ha)) (d1.new ha) b2
    have oL : OddL H1 vL := by
      have k1 := b2 _ _ (same_upd ha _ _ e1) (d1.off e1 fun _ _ _ => (nomatch ·))
      have k2 := b2 _ _ (same_upd ha _ _ e2) (d1.off e2 fun _ _ _ => (nomatch ·))
      have k3 := b2 _ _ (same_upd ha _ _ e3) (d1.off e3 fun _ _ _ => (nomatch ·))
      simp only [List.mem_cons, List.not_mem_nil, or_false] at hv
      rcases hv with rfl | rfl | rfl | rfl | rfl | rfl | rfl | rfl | rfl | rfl | rfl
      · exact ⟨.non, fun _ => (nomatch ·)⟩
      · exact ⟨.int _, fun _ => (nomatch ·)⟩
      · exact ⟨.str _, fun x e => by cases e; exact ⟨by decide +kernel, by decide +kernel⟩⟩
      · exact ⟨.str _, fun x e => by cases e; exact ⟨by decide +kernel, by decide +kernel⟩⟩
      · exact ⟨.str _, fun x e => by cases e; exact ⟨by decide +kernel, by decide +kernel⟩⟩
      · exact ⟨.str _, fun x e => by cases e; exact ⟨by decide +kernel, by decide +kernel⟩⟩
      · exact ⟨.str _, fun x e => by cases e; exact ⟨by decide +kernel, by decide +kernel⟩⟩
      · exact ⟨.tup k1, fun _ => (nomatch ·)⟩
      · exact ⟨.lst k2 fun _ _ _ => (nomatch ·), fun _ => (nomatch ·)⟩
      · exact ⟨.dic k3, fun _ => (nomatch ·)⟩
      · exact ⟨.bl _, fun _ => (nomatch ·)⟩
    clear hv b2 d1 ha e1 e2 e3 s3 s2 s1 hd hl ht
    refine ⟨_, rfl, _, rfl, by rw [sizeLine_eq]; simp only [List.length_cons, List.length_nil]; omega, fun t ht => ⟨by rw [sizeLine_eq]; simp only [List.length_cons, List.length_nil]; omega, fun l hl d hd => ⟨_, _, rfl, rfl, ⟨by decide, by decide, by decide +kernel⟩, by rw [sizeLine_eq]; simp only [List.length_cons, List.length_nil]; omega, fun a ha => ?_⟩⟩⟩
    have s1 := same_upd (o := .tup []) ht
    have s2 := same_two s1 (o := .lst []) hl
    have s3 := same_two s2 (o := .dK []) hd
    have e1 := same_upd hd (o := .dK []) _ _ (same_upd hl (o := .lst []) _ _ (upd_same (H := H1) (a := t) (o := .tup [])))
    have e2 := same_upd hd (o := .dK []) _ _ (upd_same (H := upd H1 t (.tup [])) (a := l) (o := .lst []))
    have e3 := upd_same (H := upd (upd H1 t (.tup [])) l (.lst [])) (a := d) (o := .dK [])
    generalize upd (upd (upd H1 t (.tup [])) l (.lst [])) d (.dK []) = G1 at s3 e1 e2 e3 ha ⊢
    have d1 : DiceAt G1 p := d2.keep fun _ e => s3 _ _ e
    refine ⟨p, a, _, rfl, d1.new ha, d1.ne ha, upd_same, by simp only [List.length_cons, List.length_nil]; omega, by simp only [List.length_cons, List.length_nil]; omega, fun vS H2 hv d3 b3 => ?_⟩
    have bt12 : ButT p H1 H2 := ButT.ofBut ((But.ofSame (s3.trans (same_upd ha))).trans b3)
    have T2 : Tabs T H2 := tabs_but ((T1.ext s3).ext (same_upd ha)) (d1.new ha) b3
    obtain ⟨x, oS⟩ : ∃ x, OddNum 1000000000000 H2 vS x := by
      have k1 := b3 _ _ (same_upd ha _ _ e1) (d1.off e1 fun _ _ _ => (nomatch ·))
      have k2 := b3 _ _ (same_upd ha _ _ e2) (d1.off e2 fun _ _ _ => (nomatch ·))
      have k3 := b3 _ _ (same_upd ha _ _ e3) (d1.off e3 fun _ _ _ => (nomatch ·))
      simp only [List.mem_cons, List.not_mem_nil, or_false] at hv
      rcases hv with rfl | rfl | rfl | rfl | rfl | rfl | rfl | rfl
      · exact ⟨_, .non, fun _ _ _ _ => rfl⟩
      · exact ⟨_, shw_neg, fun _ _ h _ => numB_neg h⟩
      · exact ⟨_, .tru, fun _ _ _ _ => rfl⟩
      · exact ⟨_, .one, fun _ _ _ _ => rfl⟩
      · exact ⟨_, .tup k1, fun _ _ _ _ => rfl⟩
      · exact ⟨_, .lst k2, fun _ _ _ _ => rfl⟩
      · exact ⟨_, .dic k3, fun _ _ _ _ => rfl⟩
      · exact ⟨_, .int _ (by decide +kernel) (by decide +kernel) (by decide +kernel), fun _ _ _ h => numB_big (by decide +kernel) h⟩
    have oL := oL.bx bt12.bx d2
    have bt := bt1.trans bt12
    clear hv b3 d1 ha e1 e2 e3 s3 s2 s1 hd hl ht bt1 bt12 T1 d2 hT hD
    refine ⟨_, T2, fun _ _ _ q => q, fun a G1 na inv => ?_⟩
    refine app_step rfl na inv (by simp only [List.length_cons, List.length_nil, List.length_append]; omega) (fun _ _ _ q => q) fun G2 inv => ?_
    refine app_step rfl na inv (by simp only [List.length_cons, List.length_nil, List.length_append]; omega) (fun G Q ex q => ⟨_, rfl, vS, x, rfl, (oS.bx (ButT.ofX ex).bx d3).1, _, _, rfl, rfl, by have := oS.1.few; rw [sizeLine_eq]; show 7 + x.length ≤ _; omega, q⟩) fun G2 inv => ?_
    refine app_step rfl na inv (by simp only [List.length_cons, List.length_nil, List.length_append]; omega) (fun _ _ _ q => q) fun G2 inv => ?_
    refine app_step rfl na inv (by simp only [List.length_cons, List.length_nil, List.length_append]; omega) (fun G Q ex q => ⟨_, rfl, vS, x, rfl, (oS.bx (ButT.ofX ex).bx d3).1, _, _, rfl, rfl, by have := oS.1.few; rw [sizeLine_eq]; show 7 + x.length ≤ _; omega, q⟩) fun G2 inv => ?_
    refine app_step rfl na inv (by simp only [List.length_cons, List.length_nil, List.length_append]; omega) (fun _ _ _ q => q) fun G2 inv => ?_
    refine app_step rfl na inv (by simp only [List.length_cons, List.length_nil, List.length_append]; omega) (fun _ _ _ q => q) fun G2 inv => ?_
    refine app_step rfl na inv (by simp only [List.length_cons, List.length_nil, List.length_append]; omega) (fun _ _ _ q => q) fun G2 inv => ?_
    refine app_step rfl na inv (by simp only [List.length_cons, List.length_nil, List.length_append]; omega) (fun G Q ex q => ⟨_, rfl, vS, x, rfl, (oS.bx (ButT.ofX ex).bx d3).1, _, _, rfl, rfl, by have := oS.1.few; rw [sizeLine_eq]; show 7 + x.length ≤ _; omega, q⟩) fun G2 inv => ?_
    refine app_step rfl na inv (by simp only [List.length_cons, List.length_nil, List.length_append]; omega) (fun _ _ _ q => q) fun G2 inv => ?_
    refine app_step rfl na inv (by simp only [List.length_cons, List.length_nil, List.length_append]; omega) (fun _ _ _ q => q) fun G2 inv => ?_
    refine app_step rfl na inv (by simp only [List.length_cons, List.length_nil, List.length_append]; omega) (fun _ _ _ q => q) fun G2 inv => ?_
    refine app_step rfl na inv (by simp only [List.length_cons, List.length_nil, List.length_append]; omega) (fun G Q ex q => ⟨_, rfl, vS, x, rfl, (oS.bx (ButT.ofX ex).bx d3).1, _, _, rfl, rfl, by have := oS.1.few; rw [sizeLine_eq]; show 7 + x.length ≤ _; omega, q⟩) fun G2 inv => ?_
    refine app_step rfl na inv (by simp only [List.length_cons, List.length_nil, List.length_append]; omega) (fun _ _ _ q => q) fun G2 inv => ?_
    refine ⟨_, rfl, [vS, vL], rfl, fun cs ft n => ?_⟩
    refine calls_out out bt d3 inv (by simp only [List.length_cons, List.length_nil, List.length_append]; omega) ft n fun dG ex y hy => ?_
    have oL := oL.bx (ButT.ofX (p := p) ex).bx d3
    have oS := oS.bx (ButT.ofX (p := p) ex).bx d3
    simp only [List.cons_append, List.nil_append, List.mem_cons, List.not_mem_nil, or_false] at hy
    rcases hy with rfl | rfl | rfl | rfl | rfl | rfl | rfl | rfl | rfl | rfl | rfl | rfl | rfl | rfl
    · exact ⟨tell_MC2 Lb dG oL oS, (by decide +kernel)⟩
    · exact ⟨tell_MC3 Lb dG oL oS, (by decide +kernel)⟩
    · exact ⟨tell_MC4 Lb dG oL oS, lay_num oS.1.lay⟩
    · exact ⟨tell_MC5 Lb dG oL oS, (by decide +kernel)⟩
    · exact ⟨tell_MC6 Lb dG oL oS, lay_num oS.1.lay⟩
    · exact ⟨tell_MC7 Lb dG oL oS, (by decide +kernel)⟩
    · exact ⟨tell_MC8 Lb dG oL oS, (by decide +kernel)⟩
    · exact ⟨tell_MC9 Lb dG oL oS, (by decide +kernel)⟩
    · exact ⟨tell_MC10 Lb dG oL oS, lay_num oS.1.lay⟩
    · exact ⟨tell_MC11 Lb dG oL oS, (by decide +kernel)⟩
    · exact ⟨tell_MC12 Lb dG oL oS, (by decide +kernel)⟩
    · exact ⟨tell_MC13 Lb dG oL oS, (by decide +kernel)⟩
    · exact ⟨tell_MC14 Lb dG oL oS, lay_num oS.1.lay⟩
    · exact ⟨tell_MC15 Lb dG oL oS, (by decide +kernel)⟩
end
end WK
set_option Elab.async false
set_option linter.all false
set_option maxRecDepth 100000
set_option maxHeartbeats 8000000
namespace WK
open PySem L2 PyProof.Rows LCX K1 FV LamX NdefX RM
open TX (sg sigs)
open PySem.W (Frag kitOne)
abbrev NBC : List Str := ["_law_dice_here", "_law_letters", "_law_table_here", "_law_box_here", "_law_size", "_law_word", "_law_start", "_law_times", "_law_spots", "_law_none", "_law_calls"]
def spBC (P : Program) (w : World) (K : Frag) (mg : Str → Option Value) (base : Heap) (c : ErrC) (T : List (Addr × Str)) : Sp := fun vs H Q _ => ∃ (p tl : Addr) (L : W) (tb : List (List Int)) (n : Int), vs = [.ref p, .str (tx L), .ref tl] ∧ DiceAt H p ∧ Tabs T H ∧ Let L ∧ ovrB L [122] = false ∧ PTab H tl tb ∧ tl ≠ p ∧ TabOk tb L.length n ∧ 1 ≤ n ∧ n ≤ 4 ∧ CallsOut P w K mg base c T p H Q
theorem scBC2 : FnScope NBC ["_law_dice_here", "_law_letters", "_law_table_here"] (defScope sBC2) := ⟨rfl, rfl, rfl, by decide +kernel, rfl, by decide +kernel, by decide +kernel⟩
theorem refs_no {ts : List Addr} (x y z : Int) : HO.lst (ts.map V.ref) ≠ .lst [.int x, .int y, .int z] := fun e => by
  have := HO.lst.inj e
  cases ts with
  | nil => cases this
  | cons a r => cases (List.cons.inj this).1
theorem sp_tup {m : Int} {H : Hp} {a : Addr} {xs : List V} (e : H a = some (.tup xs)) (h1 : xs.length ≤ 100) (h2 : ∀ x ∈ xs, isNum x) (h3 : ascV xs m = false) : OddSp m H (.ref a) := ⟨.tup e, fun b ys z y => by cases z; rw [e] at y; cases y; exact ⟨h1, h2, h3⟩⟩
theorem sp_lst {m : Int} {H : Hp} {a : Addr} {xs : List V} (e : H a = some (.lst xs)) (n : ∀ x y z : Int, xs ≠ [.int x, .int y, .int z]) : OddSp m H (.ref a) := ⟨.lst e n, fun b ys z y => by cases z; rw [e] at y; cases y⟩
theorem sp_dic {m : Int} {H : Hp} {a : Addr} {xs : List (Key × V)} (e : H a = some (.dK xs)) : OddSp m H (.ref a) := ⟨.dic e, fun b ys z y => by cases z; rw [e] at y; cases y⟩
theorem asc_one {v : V} {m : Int} (h : numB v 0 (m - 1) = false) : ascV [v] m = false := by
  show ((numB v 0 (m - 1) && true) && _) = false
  rw [h] <;> rfl
theorem small_n {n : Int} (h1 : 1 ≤ n) (h4 : n ≤ 4) : n.natAbs.log2 < 1920 ∧ ((toString n : String) : Str).length ≤ 1000 ∧ PyData.canLay0 (.str ((toString n : String) : Str)) = true := by
  have : n = 1 ∨ n = 2 ∨ n = 3 ∨ n = 4 := by omega
  rcases this with rfl | rfl | rfl | rfl <;> decide +kernel
section
variable {P : Program} {w : World} {K : Frag} {mg : Str → Option Value} {base : Heap} {c : ErrC} {C CB fO fB cM PM : Addr} {dO dB : FuncData} {mc : Value} {T : List (Addr × Str)}
theorem ok_bc {f : Addr} {oc kV doc pm ct : Value} {an od : Option Addr} {osl : Array (Option Value)} (lk : K.lookup f = some ⟨oc, od, .func (PySem.W.fnOf "_law_box_calls" "_law_box_calls" (defArgs sBC2) (defBody sBC2) (defScope sBC2) .none kV doc pm an (.ref cM) ct), osl⟩) (hcd : PySem.W.codeIn K (.ref cM) "_law_box_calls" = true)
    (Lb : Lib P w K mg base c C CB mc) (TB : TabB base mg cM PM) (mem : (PM, qBC) ∈ T) (uniq : ∀ p ∈ T, p.1 = PM → p.2 = qBC) (rp : mg "repr" = none) (TT : TN mg) (AO : Fn K mg "_law_one_of" sOne ["_law_dice_here", "_law_items"] fO dO) (GO : FnOk P w K mg base CX0 2 fO dO ["_law_dice_here", "_law_items"] spOne)
    (AB : Fn K mg "_law_made_box" sMBox ["_law_letters", "_law_table_here"] fB dB) (GB : FnOk P w K mg base CX0 7 fB dB ["_law_letters", "_law_table_here"] (spMBox CB)) :
    WG.FnG P w K mg base 8 f (PySem.W.fnOf "_law_box_calls" "_law_box_calls" (defArgs sBC2) (defBody sBC2) (defScope sBC2) .none kV doc pm an (.ref cM) ct) ["_law_dice_here", "_law_letters", "_law_table_here"] (spBC P w K mg base c T) := by
  refine okGC (fr := ["_law_word", "_law_times", "_law_start", "_law_spots", "_law_none", "_law_box_here"]) (js := [5, 7, 6, 8, 9, 3]) lk hcd scBC2 (by decide +kernel) (by decide +kernel) (by decide +kernel) rfl (fun vs H Q E h => ?_) (fun A outer s H vs Q E hr hg h => ?_)
  · obtain ⟨p, tl, L, tb, n, rfl, _⟩ := h
    rfl
  · obtain ⟨p, tl, L, tb, n, rfl, hD, hT, hL, fL, ⟨ts, hl, ho⟩, np, ok, n1, n4, out⟩ := h
    have hr2 : Room 2 _ := hr.mono (by decide)
    have hu : (A.deeper (envOfC "_law_box_calls" (defScope sBC2) s.heap.objs.size f (.ref cM))).units + 100 < cLine := by
      have := hr.un
      omega
    refine ⟨_, psz_cons (ps_asg (pe_tup (pa_cons (pe_call GB hr rfl AB.g AB.F.kp AB.b .nil pass0 (pa_cons (pv 1) (pa_cons (pv 2) pa_nil))) (pa_cons (pe_callB call_len_seq (by rfl) TT.len PySem.boot_len (pa_cons (pv 2) pa_nil)) pa_nil))) (pg_tup (by rfl) (pgs_cons (pg_name (i := 3) scBC2.nd rfl (Or.inr rfl)) (pgs_cons (pg_name (i := 4) scBC2.nd rfl (Or.inl rfl)) pgs_nil))))
      (psz_cons (ps_set (i := 5) scBC2.nd rfl (Or.inr rfl) (pe_call GO hr2 rfl AO.g AO.F.kp AO.b .nil pass0 (pa_cons (pv 0) (pa_cons (pe_lst (pa_cons pe_non (pa_cons pe_int (pa_cons pe_str (pa_cons pe_str (pa_cons (pe_tup (pa_cons pe_str pa_nil)) (pa_cons (pe_lst pa_nil) (pa_cons pe_dnewK (pa_cons pe_bl pa_nil))))))))) pa_nil))))
      (psz_cons (ps_set (i := 6) scBC2.nd rfl (Or.inr rfl) (pe_call GO hr2 rfl AO.g AO.F.kp AO.b .nil pass0 (pa_cons (pv 0) (pa_cons (pe_lst (pa_cons pe_non (pa_cons (pe_un un_neg pe_int) (pa_cons (pv 4) (pa_cons pe_bl (pa_cons pe_str (pa_cons (pe_tup pa_nil) (pa_cons (pe_lst pa_nil) (pa_cons pe_dnewK pa_nil))))))))) pa_nil))))
      (psz_cons (ps_set (i := 7) scBC2.nd rfl (Or.inr rfl) (pe_call GO hr2 rfl AO.g AO.F.kp AO.b .nil pass0 (pa_cons (pv 0) (pa_cons (pe_lst (pa_cons pe_non (pa_cons (pe_un un_neg pe_int) (pa_cons (pe_op op_add (pe_op op_pow pe_int pe_int) pe_int) (pa_cons pe_bl (pa_cons pe_str (pa_cons (pe_tup pa_nil) (pa_cons (pe_lst pa_nil) (pa_cons pe_dnewK pa_nil))))))))) pa_nil))))
      (psz_cons (ps_set (i := 8) scBC2.nd rfl (Or.inr rfl) (pe_call GO hr2 rfl AO.g AO.F.kp AO.b .nil pass0 (pa_cons (pv 0) (pa_cons (pe_lst (pa_cons pe_non (pa_cons pe_int (pa_cons (pe_lst (pa_cons pe_int pa_nil)) (pa_cons (pe_tup (pa_cons (pv 4) pa_nil)) (pa_cons (pe_tup (pa_cons pe_int (pa_cons pe_int pa_nil))) (pa_cons (pe_tup (pa_cons pe_bl pa_nil)) (pa_cons pe_str (pa_cons pe_dnewK (pa_cons (pe_tup (pa_cons (pe_un un_neg pe_int) pa_nil)) pa_nil)))))))))) pa_nil))))
      (psz_cons (ps_set (i := 9) scBC2.nd rfl (Or.inr rfl) (pe_call GO hr2 rfl AO.g AO.F.kp AO.b .nil pass0 (pa_cons (pv 0) (pa_cons (pe_lst (pa_cons pe_non (pa_cons pe_int (pa_cons pe_str (pa_cons (pe_tup pa_nil) (pa_cons pe_dnewK (pa_cons (pv 2) (pa_cons pe_bl pa_nil)))))))) pa_nil))))
      (psz_cons (ps_first (st := nthS sBC2 6) (T := T) (i := 10) rfl TB rfl mem uniq rfl (fun ok y hy e => ok.has _ (.inl ((by decide +kernel : ∀ y ∈ (lamSc (callLam (nthS sBC2 6))).names, y.2 = .free → (defScope sBC2).names.lookup y.1 = some .cell) y hy e))) (fun hL => ps_set (i := 10) scBC2.nd rfl (Or.inl rfl) (pe_lst (pa_cons (pe_tup (pa_cons hL (pa_cons pe_str pa_nil))) pa_nil))))
      (psz_cons (ps_app (st := nthS sBC2 7) (T := T) (i := 10) rfl TB rfl mem uniq rfl (fun ok y hy e => ok.has _ (.inl ((by decide +kernel : ∀ y ∈ (lamSc (callLam (nthS sBC2 7))).names, y.2 = .free → (defScope sBC2).names.lookup y.1 = some .cell) y hy e))) (fun hL => pe_bm PySem.F.plainAttrs_list PySem.F.slot_list_append PySem.F.type_list_append mt_append (pv 10) (pa_cons (pe_tup (pa_cons hL (pa_cons pe_str pa_nil))) pa_nil)) rfl)
      (psz_cons (ps_app (st := nthS sBC2 8) (T := T) (i := 10) rfl TB rfl mem uniq rfl (fun ok y hy e => ok.has _ (.inl ((by decide +kernel : ∀ y ∈ (lamSc (callLam (nthS sBC2 8))).names, y.2 = .free → (defScope sBC2).names.lookup y.1 = some .cell) y hy e))) (fun hL => pe_bm PySem.F.plainAttrs_list PySem.F.slot_list_append PySem.F.type_list_append mt_append (pv 10) (pa_cons (pe_tup (pa_cons hL (pa_cons pe_str pa_nil))) pa_nil)) rfl)
      (psz_cons (ps_app (st := nthS sBC2 9) (T := T) (i := 10) rfl TB rfl mem uniq rfl (fun ok y hy e => ok.has _ (.inl ((by decide +kernel : ∀ y ∈ (lamSc (callLam (nthS sBC2 9))).names, y.2 = .free → (defScope sBC2).names.lookup y.1 = some .cell) y hy e))) (fun hL => pe_bm PySem.F.plainAttrs_list PySem.F.slot_list_append PySem.F.type_list_append mt_append (pv 10) (pa_cons (pe_tup (pa_cons hL (pa_cons (pe_op op_add_str pe_str (pe_callB (call_reprV hg hu) (by rfl) rp (by decide +kernel) (pa_cons (pv 6) pa_nil))) pa_nil))) pa_nil)) rfl)
      (psz_cons (ps_app (st := nthS sBC2 10) (T := T) (i := 10) rfl TB rfl mem uniq rfl (fun ok y hy e => ok.has _ (.inl ((by decide +kernel : ∀ y ∈ (lamSc (callLam (nthS sBC2 10))).names, y.2 = .free → (defScope sBC2).names.lookup y.1 = some .cell) y hy e))) (fun hL => pe_bm PySem.F.plainAttrs_list PySem.F.slot_list_append PySem.F.type_list_append mt_append (pv 10) (pa_cons (pe_tup (pa_cons hL (pa_cons (pe_op op_add_str pe_str (pe_callB (call_reprV hg hu) (by rfl) rp (by decide +kernel) (pa_cons (pv 7) pa_nil))) pa_nil))) pa_nil)) rfl)
      (psz_cons (ps_app (st := nthS sBC2 11) (T := T) (i := 10) rfl TB rfl mem uniq rfl (fun ok y hy e => ok.has _ (.inl ((by decide +kernel : ∀ y ∈ (lamSc (callLam (nthS sBC2 11))).names, y.2 = .free → (defScope sBC2).names.lookup y.1 = some .cell) y hy e))) (fun hL => pe_bm PySem.F.plainAttrs_list PySem.F.slot_list_append PySem.F.type_list_append mt_append (pv 10) (pa_cons (pe_tup (pa_cons hL (pa_cons pe_str pa_nil))) pa_nil)) rfl)
      (psz_cons (ps_app (st := nthS sBC2 12) (T := T) (i := 10) rfl TB rfl mem uniq rfl (fun ok y hy e => ok.has _ (.inl ((by decide +kernel : ∀ y ∈ (lamSc (callLam (nthS sBC2 12))).names, y.2 = .free → (defScope sBC2).names.lookup y.1 = some .cell) y hy e))) (fun hL => pe_bm PySem.F.plainAttrs_list PySem.F.slot_list_append PySem.F.type_list_append mt_append (pv 10) (pa_cons (pe_tup (pa_cons hL (pa_cons pe_str pa_nil))) pa_nil)) rfl)
      (psz_cons (ps_app (st := nthS sBC2 13) (T := T) (i := 10) rfl TB rfl mem uniq rfl (fun ok y hy e => ok.has _ (.inl ((by decide +kernel : ∀ y ∈ (lamSc (callLam (nthS sBC2 13))).names, y.2 = .free → (defScope sBC2).names.lookup y.1 = some .cell) y hy e))) (fun hL => pe_bm PySem.F.plainAttrs_list PySem.F.slot_list_append PySem.F.type_list_append mt_append (pv 10) (pa_cons (pe_tup (pa_cons hL (pa_cons pe_str pa_nil))) pa_nil)) rfl)
      (psz_cons (ps_app (st := nthS sBC2 14) (T := T) (i := 10) rfl TB rfl mem uniq rfl (fun ok y hy e => ok.has _ (.inl ((by decide +kernel : ∀ y ∈ (lamSc (callLam (nthS sBC2 14))).names, y.2 = .free → (defScope sBC2).names.lookup y.1 = some .cell) y hy e))) (fun hL => pe_bm PySem.F.plainAttrs_list PySem.F.slot_list_append PySem.F.type_list_append mt_append (pv 10) (pa_cons (pe_tup (pa_cons hL (pa_cons (pe_op op_add_str pe_str (pe_callB (call_reprV hg hu) (by rfl) rp (by decide +kernel) (pa_cons (pv 6) pa_nil))) pa_nil))) pa_nil)) rfl)
      (psz_cons (ps_app (st := nthS sBC2 15) (T := T) (i := 10) rfl TB rfl mem uniq rfl (fun ok y hy e => ok.has _ (.inl ((by decide +kernel : ∀ y ∈ (lamSc (callLam (nthS sBC2 15))).names, y.2 = .free → (defScope sBC2).names.lookup y.1 = some .cell) y hy e))) (fun hL => pe_bm PySem.F.plainAttrs_list PySem.F.slot_list_append PySem.F.type_list_append mt_append (pv 10) (pa_cons (pe_tup (pa_cons hL (pa_cons pe_str pa_nil))) pa_nil)) rfl)
      (psz_cons (ps_app (st := nthS sBC2 16) (T := T) (i := 10) rfl TB rfl mem uniq rfl (fun ok y hy e => ok.has _ (.inl ((by decide +kernel : ∀ y ∈ (lamSc (callLam (nthS sBC2 16))).names, y.2 = .free → (defScope sBC2).names.lookup y.1 = some .cell) y hy e))) (fun hL => pe_bm PySem.F.plainAttrs_list PySem.F.slot_list_append PySem.F.type_list_append mt_append (pv 10) (pa_cons (pe_tup (pa_cons hL (pa_cons pe_str pa_nil))) pa_nil)) rfl)
      (psz_cons (ps_app (st := nthS sBC2 17) (T := T) (i := 10) rfl TB rfl mem uniq rfl (fun ok y hy e => ok.has _ (.inl ((by decide +kernel : ∀ y ∈ (lamSc (callLam (nthS sBC2 17))).names, y.2 = .free → (defScope sBC2).names.lookup y.1 = some .cell) y hy e))) (fun hL => pe_bm PySem.F.plainAttrs_list PySem.F.slot_list_append PySem.F.type_list_append mt_append (pv 10) (pa_cons (pe_tup (pa_cons hL (pa_cons pe_str pa_nil))) pa_nil)) rfl)
      (psz_ret (pv 10))))))))))))))))))), ?_⟩
    have tlen : (ts.map V.ref).length = tb.length := by rw [List.length_map, ho.len]
    have hln := ok.len
    refine ⟨_, rfl, _, rfl, L, tl, tb, n, rfl, hL, ⟨ts, hl, ho⟩, ok, n1, by omega, fun o H0 no s0 bx => ?_⟩
    refine ⟨_, rfl, tl, _, rfl, .inl (SqL.of (s0 _ _ hl)), ?_⟩
    rw [tlen]
    refine ⟨by rw [sizeLine_eq]; simp only [List.length_cons, List.length_nil]; omega, fun tp htp => ?_⟩
    have d0 : DiceAt (upd H0 tp (.tup [.ref o, .int (tb.length : Int)])) p := (hD.keep fun _ e => s0 _ _ e).new htp
    have bt0 : ButT p H (upd H0 tp (.tup [.ref o, .int (tb.length : Int)])) := ButT.ofSame (s0.trans (same_upd htp))
    have T0 : Tabs T (upd H0 tp (.tup [.ref o, .int (tb.length : Int)])) := (hT.ext s0).ext (same_upd htp)
    have bx := bx.same (same_upd htp (o := .tup [.ref o, .int (tb.length : Int)]))
    have hl := (same_upd htp (o := .tup [.ref o, .int (tb.length : Int)])) _ _ (s0 _ _ hl)
    have etp : (upd H0 tp (.tup [.ref o, .int (tb.length : Int)])) tp = some (.tup [.ref o, .int (tb.length : Int)]) := upd_same
    generalize upd H0 tp (.tup [.ref o, .int (tb.length : Int)]) = H0' at d0 bt0 T0 bx hl etp ⊢
    refine ⟨tp, _, rfl, SqT.of etp, rfl, _, _, rfl, _, _, rfl, rfl, ?_⟩
    clear etp htp s0 hT hD
    refine ⟨_, rfl, by rw [sizeLine_eq]; simp only [List.length_cons, List.length_nil]; omega, fun t1 ht1 => ⟨by rw [sizeLine_eq]; simp only [List.length_cons, List.length_nil]; omega, fun l1 hl1 => fun q1 hq1 => ⟨by rw [sizeLine_eq]; simp only [List.length_cons, List.length_nil]; omega, fun a1 ha1 => ?_⟩⟩⟩
    have s0_1 := same_upd (o := .tup [.str "a"]) ht1
    have s1_1 := same_two s0_1 (o := .lst []) hl1
    have s2_1 := same_two s1_1 (o := .dK []) hq1
    have e_t1 := (same_upd hq1 (o := .dK []) _ _ (same_upd hl1 (o := .lst []) _ _ (upd_same (H := H0') (a := t1) (o := .tup [.str "a"]))))
    have e_l1 := (same_upd hq1 (o := .dK []) _ _ (upd_same (H := (upd H0' t1 (.tup [.str "a"]))) (a := l1) (o := .lst [])))
    have e_q1 := (upd_same (H := (upd (upd H0' t1 (.tup [.str "a"])) l1 (.lst []))) (a := q1) (o := .dK []))
    generalize (upd (upd (upd H0' t1 (.tup [.str "a"])) l1 (.lst [])) q1 (.dK [])) = G1 at s2_1 e_t1 e_l1 e_q1 ha1 ⊢
    have g1 : DiceAt G1 p := d0.keep fun _ e => s2_1 _ _ e
    refine ⟨p, a1, _, rfl, g1.new ha1, g1.ne ha1, upd_same, by simp only [List.length_cons, List.length_nil]; omega, by simp only [List.length_cons, List.length_nil]; omega, fun vW H1 hv1 d1 b1 => ?_⟩
    have bt1 : ButT p H0' H1 := ButT.ofBut ((But.ofSame (s2_1.trans (same_upd ha1))).trans b1)
    have T1 : Tabs T H1 := tabs_but ((T0.ext s2_1).ext (same_upd ha1)) (g1.new ha1) b1
    have k_t1 := b1 _ _ (same_upd ha1 _ _ e_t1) (g1.off e_t1 fun _ _ _ => (nomatch ·))
    have k_l1 := b1 _ _ (same_upd ha1 _ _ e_l1) (g1.off e_l1 fun _ _ _ => (nomatch ·))
    have k_q1 := b1 _ _ (same_upd ha1 _ _ e_q1) (g1.off e_q1 fun _ _ _ => (nomatch ·))
    clear e_t1 e_l1 e_q1
    have oW : OddW H1 vW := by
      simp only [List.mem_cons, List.not_mem_nil, or_false] at hv1
      rcases hv1 with rfl | rfl | rfl | rfl | rfl | rfl | rfl | rfl
      · exact ⟨.non, fun _ => (nomatch ·)⟩
      · exact ⟨.int _, fun _ => (nomatch ·)⟩
      · exact ⟨.str _, fun x e => by cases e; decide +kernel⟩
      · exact ⟨.str _, fun x e => by cases e; decide +kernel⟩
      · exact ⟨.tup k_t1, fun _ => (nomatch ·)⟩
      · exact ⟨.lst k_l1 fun _ _ _ => (nomatch ·), fun _ => (nomatch ·)⟩
      · exact ⟨.dic k_q1, fun _ => (nomatch ·)⟩
      · exact ⟨.bl _, fun _ => (nomatch ·)⟩
    have bx := bx.bx bt1.bx d0
    have hl := bt1.bx.at_ d0 hl refs_no (fun _ => (nomatch ·)) fun _ => (nomatch ·)
    clear hv1 b1 ha1 g1 k_t1 k_l1 k_q1 s2_1 s1_1 s0_1 hq1 hl1 ht1
    refine ⟨_, rfl, _, rfl, _, rfl, by rw [sizeLine_eq]; simp only [List.length_cons, List.length_nil]; omega, fun t2 ht2 => ⟨by rw [sizeLine_eq]; simp only [List.length_cons, List.length_nil]; omega, fun l2 hl2 => fun q2 hq2 => ⟨by rw [sizeLine_eq]; simp only [List.length_cons, List.length_nil]; omega, fun a2 ha2 => ?_⟩⟩⟩
    have s0_2 := same_upd (o := .tup []) ht2
    have s1_2 := same_two s0_2 (o := .lst []) hl2
    have s2_2 := same_two s1_2 (o := .dK []) hq2
    have e_t2 := (same_upd hq2 (o := .dK []) _ _ (same_upd hl2 (o := .lst []) _ _ (upd_same (H := H1) (a := t2) (o := .tup []))))
    have e_l2 := (same_upd hq2 (o := .dK []) _ _ (upd_same (H := (upd H1 t2 (.tup []))) (a := l2) (o := .lst [])))
    have e_q2 := (upd_same (H := (upd (upd H1 t2 (.tup [])) l2 (.lst []))) (a := q2) (o := .dK []))
    generalize (upd (upd (upd H1 t2 (.tup [])) l2 (.lst [])) q2 (.dK [])) = G2 at s2_2 e_t2 e_l2 e_q2 ha2 ⊢
    have g2 : DiceAt G2 p := d1.keep fun _ e => s2_2 _ _ e
    refine ⟨p, a2, _, rfl, g2.new ha2, g2.ne ha2, upd_same, by simp only [List.length_cons, List.length_nil]; omega, by simp only [List.length_cons, List.length_nil]; omega, fun vSt H2 hv2 d2 b2 => ?_⟩
    have bt2 : ButT p H1 H2 := ButT.ofBut ((But.ofSame (s2_2.trans (same_upd ha2))).trans b2)
    have T2 : Tabs T H2 := tabs_but ((T1.ext s2_2).ext (same_upd ha2)) (g2.new ha2) b2
    have k_t2 := b2 _ _ (same_upd ha2 _ _ e_t2) (g2.off e_t2 fun _ _ _ => (nomatch ·))
    have k_l2 := b2 _ _ (same_upd ha2 _ _ e_l2) (g2.off e_l2 fun _ _ _ => (nomatch ·))
    have k_q2 := b2 _ _ (same_upd ha2 _ _ e_q2) (g2.off e_q2 fun _ _ _ => (nomatch ·))
    clear e_t2 e_l2 e_q2
    obtain ⟨xSt, oSt⟩ : ∃ x, OddNum (tb.length : Int) H2 vSt x := by
      simp only [List.mem_cons, List.not_mem_nil, or_false] at hv2
      rcases hv2 with rfl | rfl | rfl | rfl | rfl | rfl | rfl | rfl
      · exact ⟨_, .non, fun _ _ _ _ => rfl⟩
      · exact ⟨_, shw_neg, fun _ _ h _ => numB_neg h⟩
      · exact ⟨_, .int _ (small_n (by omega) (by omega)).1 (small_n (by omega) (by omega)).2.1 (small_n (by omega) (by omega)).2.2, fun _ _ _ h => numB_big (Int.le_refl _) h⟩
      · exact ⟨_, .tru, fun _ _ _ _ => rfl⟩
      · exact ⟨_, .nul, fun _ _ _ _ => rfl⟩
      · exact ⟨_, .tup k_t2, fun _ _ _ _ => rfl⟩
      · exact ⟨_, .lst k_l2, fun _ _ _ _ => rfl⟩
      · exact ⟨_, .dic k_q2, fun _ _ _ _ => rfl⟩
    have oW := oW.bx bt2.bx d1
    have bx := bx.bx bt2.bx d1
    have hl := bt2.bx.at_ d1 hl refs_no (fun _ => (nomatch ·)) fun _ => (nomatch ·)
    clear hv2 b2 ha2 g2 k_t2 k_l2 k_q2 s2_2 s1_2 s0_2 hq2 hl2 ht2
    refine ⟨_, rfl, _, rfl, _, _, rfl, rfl, ⟨by decide, by decide, by decide +kernel⟩, _, _, rfl, rfl, by rw [sizeLine_eq]; simp only [List.length_cons, List.length_nil]; omega, fun t3 ht3 => ⟨by rw [sizeLine_eq]; simp only [List.length_cons, List.length_nil]; omega, fun l3 hl3 => fun q3 hq3 => ⟨by rw [sizeLine_eq]; simp only [List.length_cons, List.length_nil]; omega, fun a3 ha3 => ?_⟩⟩⟩
    have s0_3 := same_upd (o := .tup []) ht3
    have s1_3 := same_two s0_3 (o := .lst []) hl3
    have s2_3 := same_two s1_3 (o := .dK []) hq3
    have e_t3 := (same_upd hq3 (o := .dK []) _ _ (same_upd hl3 (o := .lst []) _ _ (upd_same (H := H2) (a := t3) (o := .tup []))))
    have e_l3 := (same_upd hq3 (o := .dK []) _ _ (upd_same (H := (upd H2 t3 (.tup []))) (a := l3) (o := .lst [])))
    have e_q3 := (upd_same (H := (upd (upd H2 t3 (.tup [])) l3 (.lst []))) (a := q3) (o := .dK []))
    generalize (upd (upd (upd H2 t3 (.tup [])) l3 (.lst [])) q3 (.dK [])) = G3 at s2_3 e_t3 e_l3 e_q3 ha3 ⊢
    have g3 : DiceAt G3 p := d2.keep fun _ e => s2_3 _ _ e
    refine ⟨p, a3, _, rfl, g3.new ha3, g3.ne ha3, upd_same, by simp only [List.length_cons, List.length_nil]; omega, by simp only [List.length_cons, List.length_nil]; omega, fun vT H3 hv3 d3 b3 => ?_⟩
    have bt3 : ButT p H2 H3 := ButT.ofBut ((But.ofSame (s2_3.trans (same_upd ha3))).trans b3)
    have T3 : Tabs T H3 := tabs_but ((T2.ext s2_3).ext (same_upd ha3)) (g3.new ha3) b3
    have k_t3 := b3 _ _ (same_upd ha3 _ _ e_t3) (g3.off e_t3 fun _ _ _ => (nomatch ·))
    have k_l3 := b3 _ _ (same_upd ha3 _ _ e_l3) (g3.off e_l3 fun _ _ _ => (nomatch ·))
    have k_q3 := b3 _ _ (same_upd ha3 _ _ e_q3) (g3.off e_q3 fun _ _ _ => (nomatch ·))
    clear e_t3 e_l3 e_q3
    obtain ⟨xT, oT⟩ : ∃ x, OddNum 100000000001 H3 vT x := by
      simp only [List.mem_cons, List.not_mem_nil, or_false] at hv3
      rcases hv3 with rfl | rfl | rfl | rfl | rfl | rfl | rfl | rfl
      · exact ⟨_, .non, fun _ _ _ _ => rfl⟩
      · exact ⟨_, shw_neg, fun _ _ h _ => numB_neg h⟩
      · exact ⟨_, .int _ (by decide +kernel) (by decide +kernel) (by decide +kernel), fun _ _ _ h => numB_big (by decide +kernel) h⟩
      · exact ⟨_, .tru, fun _ _ _ _ => rfl⟩
      · exact ⟨_, .one, fun _ _ _ _ => rfl⟩
      · exact ⟨_, .tup k_t3, fun _ _ _ _ => rfl⟩
      · exact ⟨_, .lst k_l3, fun _ _ _ _ => rfl⟩
      · exact ⟨_, .dic k_q3, fun _ _ _ _ => rfl⟩
    have oW := oW.bx bt3.bx d2
    have oSt := oSt.bx bt3.bx d2
    have bx := bx.bx bt3.bx d2
    have hl := bt3.bx.at_ d2 hl refs_no (fun _ => (nomatch ·)) fun _ => (nomatch ·)
    clear hv3 b3 ha3 g3 k_t3 k_l3 k_q3 s2_3 s1_3 s0_3 hq3 hl3 ht3
    refine ⟨_, rfl, by rw [sizeLine_eq]; simp only [List.length_cons, List.length_nil]; omega, fun l4 hl4 => ⟨_, rfl, by rw [sizeLine_eq]; simp only [List.length_cons, List.length_nil]; omega, fun t4 ht4 => ⟨by rw [sizeLine_eq]; simp only [List.length_cons, List.length_nil]; omega, fun u4 hu4 => ⟨by rw [sizeLine_eq]; simp only [List.length_cons, List.length_nil]; omega, fun w4 hw4 => fun q4 hq4 => ⟨_, rfl, by rw [sizeLine_eq]; simp only [List.length_cons, List.length_nil]; omega, fun x4 hx4 => ⟨by rw [sizeLine_eq]; simp only [List.length_cons, List.length_nil]; omega, fun a4 ha4 => ?_⟩⟩⟩⟩⟩⟩
    have s0_4 := same_upd (o := .lst [.int 0]) hl4
    have s1_4 := same_two s0_4 (o := .tup [.int (tb.length : Int)]) ht4
    have s2_4 := same_two s1_4 (o := .tup [.int 0, .int 0]) hu4
    have s3_4 := same_two s2_4 (o := .tup [.bl true]) hw4
    have s4_4 := same_two s3_4 (o := .dK []) hq4
    have s5_4 := same_two s4_4 (o := .tup [.int (-1)]) hx4
    have e_l4 := (same_upd hx4 (o := .tup [.int (-1)]) _ _ (same_upd hq4 (o := .dK []) _ _ (same_upd hw4 (o := .tup [.bl true]) _ _ (same_upd hu4 (o := .tup [.int 0, .int 0]) _ _ (same_upd ht4 (o := .tup [.int (tb.length : Int)]) _ _ (upd_same (H := H3) (a := l4) (o := .lst [.int 0])))))))
    have e_t4 := (same_upd hx4 (o := .tup [.int (-1)]) _ _ (same_upd hq4 (o := .dK []) _ _ (same_upd hw4 (o := .tup [.bl true]) _ _ (same_upd hu4 (o := .tup [.int 0, .int 0]) _ _ (upd_same (H := (upd H3 l4 (.lst [.int 0]))) (a := t4) (o := .tup [.int (tb.length : Int)]))))))
    have e_u4 := (same_upd hx4 (o := .tup [.int (-1)]) _ _ (same_upd hq4 (o := .dK []) _ _ (same_upd hw4 (o := .tup [.bl true]) _ _ (upd_same (H := (upd (upd H3 l4 (.lst [.int 0])) t4 (.tup [.int (tb.length : Int)]))) (a := u4) (o := .tup [.int 0, .int 0])))))
    have e_w4 := (same_upd hx4 (o := .tup [.int (-1)]) _ _ (same_upd hq4 (o := .dK []) _ _ (upd_same (H := (upd (upd (upd H3 l4 (.lst [.int 0])) t4 (.tup [.int (tb.length : Int)])) u4 (.tup [.int 0, .int 0]))) (a := w4) (o := .tup [.bl true]))))
    have e_q4 := (same_upd hx4 (o := .tup [.int (-1)]) _ _ (upd_same (H := (upd (upd (upd (upd H3 l4 (.lst [.int 0])) t4 (.tup [.int (tb.length : Int)])) u4 (.tup [.int 0, .int 0])) w4 (.tup [.bl true]))) (a := q4) (o := .dK [])))
    have e_x4 := (upd_same (H := (upd (upd (upd (upd (upd H3 l4 (.lst [.int 0])) t4 (.tup [.int (tb.length : Int)])) u4 (.tup [.int 0, .int 0])) w4 (.tup [.bl true])) q4 (.dK []))) (a := x4) (o := .tup [.int (-1)]))
    generalize (upd (upd (upd (upd (upd (upd H3 l4 (.lst [.int 0])) t4 (.tup [.int (tb.length : Int)])) u4 (.tup [.int 0, .int 0])) w4 (.tup [.bl true])) q4 (.dK [])) x4 (.tup [.int (-1)])) = G4 at s5_4 e_l4 e_t4 e_u4 e_w4 e_q4 e_x4 ha4 ⊢
    have g4 : DiceAt G4 p := d3.keep fun _ e => s5_4 _ _ e
    refine ⟨p, a4, _, rfl, g4.new ha4, g4.ne ha4, upd_same, by simp only [List.length_cons, List.length_nil]; omega, by simp only [List.length_cons, List.length_nil]; omega, fun vSp H4 hv4 d4 b4 => ?_⟩
    have bt4 : ButT p H3 H4 := ButT.ofBut ((But.ofSame (s5_4.trans (same_upd ha4))).trans b4)
    have T4 : Tabs T H4 := tabs_but ((T3.ext s5_4).ext (same_upd ha4)) (g4.new ha4) b4
    have k_l4 := b4 _ _ (same_upd ha4 _ _ e_l4) (g4.off e_l4 fun _ _ _ => (nomatch ·))
    have k_t4 := b4 _ _ (same_upd ha4 _ _ e_t4) (g4.off e_t4 fun _ _ _ => (nomatch ·))
    have k_u4 := b4 _ _ (same_upd ha4 _ _ e_u4) (g4.off e_u4 fun _ _ _ => (nomatch ·))
    have k_w4 := b4 _ _ (same_upd ha4 _ _ e_w4) (g4.off e_w4 fun _ _ _ => (nomatch ·))
    have k_q4 := b4 _ _ (same_upd ha4 _ _ e_q4) (g4.off e_q4 fun _ _ _ => (nomatch ·))
    have k_x4 := b4 _ _ (same_upd ha4 _ _ e_x4) (g4.off e_x4 fun _ _ _ => (nomatch ·))
    clear e_l4 e_t4 e_u4 e_w4 e_q4 e_x4
    have oSp : OddSp (tb.length : Int) H4 vSp := by
      simp only [List.mem_cons, List.not_mem_nil, or_false] at hv4
      rcases hv4 with rfl | rfl | rfl | rfl | rfl | rfl | rfl | rfl | rfl
      · exact ⟨.non, fun _ _ => (nomatch ·)⟩
      · exact ⟨.int _, fun _ _ => (nomatch ·)⟩
      · exact sp_lst k_l4 fun _ _ _ => (nomatch ·)
      · exact sp_tup k_t4 (by show 1 ≤ 100; decide) (fun x hx => by rw [List.mem_singleton.mp hx]; exact .inl ⟨_, rfl⟩) (asc_one (numB_big (Int.le_refl _) (by omega)))
      · exact sp_tup k_u4 (by show 2 ≤ 100; decide) (fun x hx => by simp only [List.mem_cons, List.not_mem_nil, or_false] at hx; rcases hx with rfl | rfl <;> exact .inl ⟨_, rfl⟩) (by show (_ && ascI [0, 0]) = false; rw [show ascI [0, 0] = false by decide, Bool.and_false])
      · exact sp_tup k_w4 (by show 1 ≤ 100; decide) (fun x hx => by rw [List.mem_singleton.mp hx]; exact .inr ⟨_, rfl⟩) (asc_one rfl)
      · exact ⟨.str _, fun _ _ => (nomatch ·)⟩
      · exact sp_dic k_q4
      · exact sp_tup k_x4 (by show 1 ≤ 100; decide) (fun x hx => by rw [List.mem_singleton.mp hx]; exact .inl ⟨_, rfl⟩) (asc_one (numB_neg (by decide)))
    have oW := oW.bx bt4.bx d3
    have oSt := oSt.bx bt4.bx d3
    have oT := oT.bx bt4.bx d3
    have bx := bx.bx bt4.bx d3
    have hl := bt4.bx.at_ d3 hl refs_no (fun _ => (nomatch ·)) fun _ => (nomatch ·)
    clear hv4 b4 ha4 g4 k_l4 k_t4 k_u4 k_w4 k_q4 k_x4 s5_4 s4_4 s3_4 s2_4 s1_4 s0_4 hx4 hq4 hw4 hu4 ht4 hl4
    refine ⟨_, rfl, by rw [sizeLine_eq]; simp only [List.length_cons, List.length_nil]; omega, fun t5 ht5 => fun q5 hq5 => ⟨_, rfl, by rw [sizeLine_eq]; simp only [List.length_cons, List.length_nil]; omega, fun a5 ha5 => ?_⟩⟩
    have s0_5 := same_upd (o := .tup []) ht5
    have s1_5 := same_two s0_5 (o := .dK []) hq5
    have e_t5 := (same_upd hq5 (o := .dK []) _ _ (upd_same (H := H4) (a := t5) (o := .tup [])))
    have e_q5 := (upd_same (H := (upd H4 t5 (.tup []))) (a := q5) (o := .dK []))
    generalize (upd (upd H4 t5 (.tup [])) q5 (.dK [])) = G5 at s1_5 e_t5 e_q5 ha5 ⊢
    have g5 : DiceAt G5 p := d4.keep fun _ e => s1_5 _ _ e
    refine ⟨p, a5, _, rfl, g5.new ha5, g5.ne ha5, upd_same, by simp only [List.length_cons, List.length_nil]; omega, by simp only [List.length_cons, List.length_nil]; omega, fun vN H5 hv5 d5 b5 => ?_⟩
    have bt5 : ButT p H4 H5 := ButT.ofBut ((But.ofSame (s1_5.trans (same_upd ha5))).trans b5)
    have T5 : Tabs T H5 := tabs_but ((T4.ext s1_5).ext (same_upd ha5)) (g5.new ha5) b5
    have k_t5 := b5 _ _ (same_upd ha5 _ _ e_t5) (g5.off e_t5 fun _ _ _ => (nomatch ·))
    have k_q5 := b5 _ _ (same_upd ha5 _ _ e_q5) (g5.off e_q5 fun _ _ _ => (nomatch ·))
    clear e_t5 e_q5
    have hl := bt5.bx.at_ d4 hl refs_no (fun _ => (nomatch ·)) fun _ => (nomatch ·)
    have oN : OP H5 vN := by
      simp only [List.mem_cons, List.not_mem_nil, or_false] at hv5
      rcases hv5 with rfl | rfl | rfl | rfl | rfl | rfl | rfl
      · exact .non
      · exact .int _
      · exact .str _
      · exact .tup k_t5
      · exact .dic k_q5
      · exact .lst hl fun x y z e => refs_no x y z (by rw [e])
      · exact .bl _
    have oW := oW.bx bt5.bx d4
    have oSt := oSt.bx bt5.bx d4
    have oT := oT.bx bt5.bx d4
    have oSp := oSp.bx bt5.bx d4
    have bx := bx.bx bt5.bx d4
    clear hv5 b5 ha5 g5 k_t5 k_q5 s1_5 s0_5 hq5 ht5
    have bt : ButT p H H5 := bt0.trans (bt1.trans (bt2.trans (bt3.trans (bt4.trans bt5))))
    clear bt0 bt1 bt2 bt3 bt4 bt5 d0 d1 d2 d3 d4 T0 T1 T2 T3 T4
    have h1 : 1 ≤ tb.length := by omega
    refine ⟨_, T5, fun _ _ _ q => q, fun a G1 na inv => ?_⟩
    refine app_step rfl na inv (by simp only [List.length_cons, List.length_nil, List.length_append]; omega) (fun _ _ _ q => q) fun G2 inv => ?_
    refine app_step rfl na inv (by simp only [List.length_cons, List.length_nil, List.length_append]; omega) (fun _ _ _ q => q) fun G2 inv => ?_
    refine app_step rfl na inv (by simp only [List.length_cons, List.length_nil, List.length_append]; omega) (fun G Q ex q => ⟨_, rfl, vSt, xSt, rfl, (oSt.bx (ButT.ofX ex).bx d5).1, _, _, rfl, rfl, by have := oSt.1.few; rw [sizeLine_eq]; show 7 + xSt.length ≤ _; omega, q⟩) fun G2 inv => ?_
    refine app_step rfl na inv (by simp only [List.length_cons, List.length_nil, List.length_append]; omega) (fun G Q ex q => ⟨_, rfl, vT, xT, rfl, (oT.bx (ButT.ofX ex).bx d5).1, _, _, rfl, rfl, by have := oT.1.few; rw [sizeLine_eq]; show 7 + xT.length ≤ _; omega, q⟩) fun G2 inv => ?_
    refine app_step rfl na inv (by simp only [List.length_cons, List.length_nil, List.length_append]; omega) (fun _ _ _ q => q) fun G2 inv => ?_
    refine app_step rfl na inv (by simp only [List.length_cons, List.length_nil, List.length_append]; omega) (fun _ _ _ q => q) fun G2 inv => ?_
    refine app_step rfl na inv (by simp only [List.length_cons, List.length_nil, List.length_append]; omega) (fun _ _ _ q => q) fun G2 inv => ?_
    refine app_step rfl na inv (by simp only [List.length_cons, List.length_nil, List.length_append]; omega) (fun G Q ex q => ⟨_, rfl, vSt, xSt, rfl, (oSt.bx (ButT.ofX ex).bx d5).1, _, _, rfl, rfl, by have := oSt.1.few; rw [sizeLine_eq]; show 7 + xSt.length ≤ _; omega, q⟩) fun G2 inv => ?_
    refine app_step rfl na inv (by simp only [List.length_cons, List.length_nil, List.length_append]; omega) (fun _ _ _ q => q) fun G2 inv => ?_
    refine app_step rfl na inv (by simp only [List.length_cons, List.length_nil, List.length_append]; omega) (fun _ _ _ q => q) fun G2 inv => ?_
    refine app_step rfl na inv (by simp only [List.length_cons, List.length_nil, List.length_append]; omega) (fun _ _ _ q => q) fun G2 inv => ?_
    refine ⟨_, rfl, [vW, vT, vSt, vSp, vN, .ref o], rfl, fun cs ft n => ?_⟩
    refine calls_out out bt d5 inv (by simp only [List.length_cons, List.length_nil, List.length_append]; omega) ft n fun dG ex y hy => ?_
    have b6 := (ButT.ofX (p := p) ex).bx
    have oW := oW.bx b6 d5
    have oT := oT.bx b6 d5
    have oSt := oSt.bx b6 d5
    have oSp := oSp.bx b6 d5
    have oN := oN.bx b6 d5
    have bx := bx.bx b6 d5
    simp only [List.cons_append, List.nil_append, List.mem_cons, List.not_mem_nil, or_false] at hy
    rcases hy with rfl | rfl | rfl | rfl | rfl | rfl | rfl | rfl | rfl | rfl | rfl | rfl
    · exact ⟨tell_BC6 Lb dG bx fL oW oT oSt h1 oSp oN, (by decide +kernel)⟩
    · exact ⟨tell_BC7 Lb dG bx fL oW oT oSt h1 oSp oN, (by decide +kernel)⟩
    · exact ⟨tell_BC8 Lb dG bx fL oW oT oSt h1 oSp oN, (by decide +kernel)⟩
    · exact ⟨tell_BC9 Lb dG bx fL oW oT oSt h1 oSp oN, lay_num oSt.1.lay⟩
    · exact ⟨tell_BC10 Lb dG bx fL oW oT oSt h1 oSp oN, lay_num oT.1.lay⟩
    · exact ⟨tell_BC11 Lb dG bx fL oW oT oSt h1 oSp oN, (by decide +kernel)⟩
    · exact ⟨tell_BC12 Lb dG bx fL oW oT oSt h1 oSp oN, (by decide +kernel)⟩
    · exact ⟨tell_BC13 Lb dG bx fL oW oT oSt h1 oSp oN, (by decide +kernel)⟩
    · exact ⟨tell_BC14 Lb dG bx fL oW oT oSt h1 oSp oN, lay_num oSt.1.lay⟩
    · exact ⟨tell_BC15 Lb dG bx fL oW oT oSt h1 oSp oN, (by decide +kernel)⟩
    · exact ⟨tell_BC16 Lb dG bx fL oW oT oSt h1 oSp oN, (by decide +kernel)⟩
    · exact ⟨tell_BC17 Lb dG bx fL oW oT oSt h1 oSp oN, (by decide +kernel)⟩
end
end WK
set_option Elab.async false
set_option linter.all false
set_option maxRecDepth 100000
set_option maxHeartbeats 8000000
namespace WK
open PySem L2 PyProof.Rows LCX K1 FV LamX NdefX RM
open TX (sg sigs)
open PySem.W (Frag kitOne)
abbrev NSC : List Str := ["_law_dice_here", "_law_letters", "_law_table_here", "_law_box_here", "_law_one", "_law_none", "_law_far", "_law_place", "_law_some", "_law_word", "_law_calls"]
theorem scSC : FnScope NSC ["_law_dice_here", "_law_letters", "_law_table_here"] (defScope sSC) := ⟨rfl, rfl, rfl, by decide +kernel, rfl, by decide +kernel, by decide +kernel⟩
theorem om_tup {C : Addr} {H : Hp} {a : Addr} {xs : List V} (e : H a = some (.tup xs)) (h1 : xs.length ≤ 100) (h2 : MsP C H xs) (h3 : (∃ x ∈ xs, OP H x) ∨ xs = [] ∨ 8 < xs.length) : OddMs C H (.ref a) := ⟨.tup e, fun b ys z y => by cases z; rw [e] at y; cases y; exact ⟨h1, h2, h3⟩⟩
theorem om_lst {C : Addr} {H : Hp} {a : Addr} {xs : List V} (e : H a = some (.lst xs)) (n : ∀ x y z : Int, xs ≠ [.int x, .int y, .int z]) : OddMs C H (.ref a) := ⟨.lst e n, fun b ys z y => by cases z; rw [e] at y; cases y⟩
theorem om_dic {C : Addr} {H : Hp} {a : Addr} {xs : List (Key × V)} (e : H a = some (.dK xs)) : OddMs C H (.ref a) := ⟨.dic e, fun b ys z y => by cases z; rw [e] at y; cases y⟩
theorem nine (m : Addr) : (List.replicate (9 : Int).toNat [V.ref m]).flatten = [.ref m, .ref m, .ref m, .ref m, .ref m, .ref m, .ref m, .ref m, .ref m] := rfl
section
variable {P : Program} {w : World} {K : Frag} {mg : Str → Option Value} {base : Heap} {c : ErrC} {C CB fO fB fM fL cM PM : Addr} {dO dB dM dL : FuncData} {mc : Value} {T : List (Addr × Str)}
theorem ok_sc {f : Addr} {oc kV doc pm ct : Value} {an od : Option Addr} {osl : Array (Option Value)} (lk : K.lookup f = some ⟨oc, od, .func (PySem.W.fnOf "_law_sight_calls" "_law_sight_calls" (defArgs sSC) (defBody sSC) (defScope sSC) .none kV doc pm an (.ref cM) ct), osl⟩) (hcd : PySem.W.codeIn K (.ref cM) "_law_sight_calls" = true)
    (Lb : Lib P w K mg base c C CB mc) (TB : TabB base mg cM PM) (mem : (PM, qSC) ∈ T) (uniq : ∀ p ∈ T, p.1 = PM → p.2 = qSC) (rp : mg "repr" = none) (TT : TN mg) (AO : Fn K mg "_law_one_of" sOne ["_law_dice_here", "_law_items"] fO dO) (GO : FnOk P w K mg base CX0 2 fO dO ["_law_dice_here", "_law_items"] spOne)
    (AB : Fn K mg "_law_made_box" sMBox ["_law_letters", "_law_table_here"] fB dB) (GB : FnOk P w K mg base CX0 7 fB dB ["_law_letters", "_law_table_here"] (spMBox CB)) (AM : Fn K mg "_law_made_machine" sMade ["_law_plain"] fM dM) (GM : FnOk P w K mg base CX0 7 fM dM ["_law_plain"] (spMade C))
    (AL : Fn K mg "_law_machine" sLMac ["_law_dice_here", "_law_letters", "_law_states"] fL dL) (GL : FnOk P w K mg base CX0 4 fL dL ["_law_dice_here", "_law_letters", "_law_states"] spLMac) :
    WG.FnG P w K mg base 8 f (PySem.W.fnOf "_law_sight_calls" "_law_sight_calls" (defArgs sSC) (defBody sSC) (defScope sSC) .none kV doc pm an (.ref cM) ct) ["_law_dice_here", "_law_letters", "_law_table_here"] (spBC P w K mg base c T) := by
  refine okGC (fr := ["_law_word", "_law_some", "_law_place", "_law_one", "_law_none", "_law_far", "_law_box_here"]) (js := [9, 8, 7, 4, 5, 6, 3]) lk hcd scSC (by decide +kernel) (by decide +kernel) (by decide +kernel) rfl (fun vs H Q E h => ?_) (fun A outer s H vs Q E hr hg h => ?_)
  · obtain ⟨p, tl, L, tb, n, rfl, _⟩ := h
    rfl
  · obtain ⟨p, tl, L, tb, n, rfl, hD, hT, hL, fL2, ⟨ts, hl, ho⟩, np, ok, n1, n4, out⟩ := h
    have hr2 : Room 2 _ := hr.mono (by decide)
    have hr4 : Room 4 _ := hr.mono (by decide)
    have hu : (A.deeper (envOfC "_law_sight_calls" (defScope sSC) s.heap.objs.size f (.ref cM))).units + 100 < cLine := by
      have := hr.un
      omega
    obtain ⟨fi, fdi, MI, GI, bI⟩ := id Lb.made
    refine ⟨_, psz_cons (ps_asg (pe_tup (pa_cons (pe_call GB hr rfl AB.g AB.F.kp AB.b .nil pass0 (pa_cons (pv 1) (pa_cons (pv 2) pa_nil))) (pa_cons (pe_call GM hr rfl AM.g AM.F.kp AM.b .nil pass0 (pa_cons (pe_call GL hr4 rfl AL.g AL.F.kp AL.b .nil pass0 (pa_cons (pv 0) (pa_cons (pv 1) (pa_cons pe_int pa_nil)))) pa_nil)) pa_nil))) (pg_tup (by rfl) (pgs_cons (pg_name (i := 3) scSC.nd rfl (Or.inr rfl)) (pgs_cons (pg_name (i := 4) scSC.nd rfl (Or.inr rfl)) pgs_nil))))
      (psz_cons (ps_set (i := 5) scSC.nd rfl (Or.inr rfl) (pe_call GO hr2 rfl AO.g AO.F.kp AO.b .nil pass0 (pa_cons (pv 0) (pa_cons (pe_lst (pa_cons pe_non (pa_cons pe_int (pa_cons pe_str (pa_cons (pe_tup pa_nil) (pa_cons pe_dnewK (pa_cons (pv 2) (pa_cons pe_bl pa_nil)))))))) pa_nil))))
      (psz_cons (ps_asg (pe_tup (pa_cons (pe_make (E := E0) MI GI (hr.mono (by decide)) rfl Lb.gB bI .nil pass0 (pa_cons pe_str (pa_cons (pe_tup (pa_cons (pe_tup (pa_cons pe_int pa_nil)) pa_nil)) pa_nil))) (pa_cons (pe_call GO hr2 rfl AO.g AO.F.kp AO.b .nil pass0 (pa_cons (pv 0) (pa_cons (pe_lst (pa_cons pe_non (pa_cons (pe_un un_neg pe_int) (pa_cons (pe_callB call_len_seq (by rfl) TT.len PySem.boot_len (pa_cons (pv 2) pa_nil)) (pa_cons pe_bl (pa_cons pe_str (pa_cons (pe_tup pa_nil) pa_nil))))))) pa_nil))) pa_nil))) (pg_tup (by rfl) (pgs_cons (pg_name (i := 6) scSC.nd rfl (Or.inr rfl)) (pgs_cons (pg_name (i := 7) scSC.nd rfl (Or.inr rfl)) pgs_nil))))
      (psz_cons (ps_set (i := 8) scSC.nd rfl (Or.inr rfl) (pe_call GO hr2 rfl AO.g AO.F.kp AO.b .nil pass0 (pa_cons (pv 0) (pa_cons (pe_lst (pa_cons pe_non (pa_cons pe_int (pa_cons (pe_tup pa_nil) (pa_cons (pe_lst (pa_cons (pv 4) pa_nil)) (pa_cons (pe_tup (pa_cons (pv 4) (pa_cons (pv 5) pa_nil))) (pa_cons (pe_tup (pa_cons (pv 5) pa_nil)) (pa_cons (pe_op op_repT (pe_tup (pa_cons (pv 4) pa_nil)) pe_int) (pa_cons pe_dnewK pa_nil))))))))) pa_nil))))
      (psz_cons (ps_set (i := 9) scSC.nd rfl (Or.inr rfl) (pe_call GO hr2 rfl AO.g AO.F.kp AO.b .nil pass0 (pa_cons (pv 0) (pa_cons (pe_lst (pa_cons pe_non (pa_cons pe_int (pa_cons pe_str (pa_cons (pe_tup (pa_cons pe_str pa_nil)) (pa_cons (pe_lst pa_nil) (pa_cons pe_dnewK pa_nil))))))) pa_nil))))
      (psz_cons (ps_first (st := nthS sSC 5) (T := T) (i := 10) rfl TB rfl mem uniq rfl (fun ok y hy e => ok.has _ (.inl ((by decide +kernel : ∀ y ∈ (lamSc (callLam (nthS sSC 5))).names, y.2 = .free → (defScope sSC).names.lookup y.1 = some .cell) y hy e))) (fun hL => ps_set (i := 10) scSC.nd rfl (Or.inl rfl) (pe_lst (pa_cons (pe_tup (pa_cons hL (pa_cons pe_str pa_nil))) pa_nil))))
      (psz_cons (ps_app (st := nthS sSC 6) (T := T) (i := 10) rfl TB rfl mem uniq rfl (fun ok y hy e => ok.has _ (.inl ((by decide +kernel : ∀ y ∈ (lamSc (callLam (nthS sSC 6))).names, y.2 = .free → (defScope sSC).names.lookup y.1 = some .cell) y hy e))) (fun hL => pe_bm PySem.F.plainAttrs_list PySem.F.slot_list_append PySem.F.type_list_append mt_append (pv 10) (pa_cons (pe_tup (pa_cons hL (pa_cons pe_str pa_nil))) pa_nil)) rfl)
      (psz_cons (ps_app (st := nthS sSC 7) (T := T) (i := 10) rfl TB rfl mem uniq rfl (fun ok y hy e => ok.has _ (.inl ((by decide +kernel : ∀ y ∈ (lamSc (callLam (nthS sSC 7))).names, y.2 = .free → (defScope sSC).names.lookup y.1 = some .cell) y hy e))) (fun hL => pe_bm PySem.F.plainAttrs_list PySem.F.slot_list_append PySem.F.type_list_append mt_append (pv 10) (pa_cons (pe_tup (pa_cons hL (pa_cons pe_str pa_nil))) pa_nil)) rfl)
      (psz_cons (ps_app (st := nthS sSC 8) (T := T) (i := 10) rfl TB rfl mem uniq rfl (fun ok y hy e => ok.has _ (.inl ((by decide +kernel : ∀ y ∈ (lamSc (callLam (nthS sSC 8))).names, y.2 = .free → (defScope sSC).names.lookup y.1 = some .cell) y hy e))) (fun hL => pe_bm PySem.F.plainAttrs_list PySem.F.slot_list_append PySem.F.type_list_append mt_append (pv 10) (pa_cons (pe_tup (pa_cons hL (pa_cons pe_str pa_nil))) pa_nil)) rfl)
      (psz_cons (ps_app (st := nthS sSC 9) (T := T) (i := 10) rfl TB rfl mem uniq rfl (fun ok y hy e => ok.has _ (.inl ((by decide +kernel : ∀ y ∈ (lamSc (callLam (nthS sSC 9))).names, y.2 = .free → (defScope sSC).names.lookup y.1 = some .cell) y hy e))) (fun hL => pe_bm PySem.F.plainAttrs_list PySem.F.slot_list_append PySem.F.type_list_append mt_append (pv 10) (pa_cons (pe_tup (pa_cons hL (pa_cons (pe_op op_add_str pe_str (pe_callB (call_reprV hg hu) (by rfl) rp (by decide +kernel) (pa_cons (pv 7) pa_nil))) pa_nil))) pa_nil)) rfl)
      (psz_cons (ps_app (st := nthS sSC 10) (T := T) (i := 10) rfl TB rfl mem uniq rfl (fun ok y hy e => ok.has _ (.inl ((by decide +kernel : ∀ y ∈ (lamSc (callLam (nthS sSC 10))).names, y.2 = .free → (defScope sSC).names.lookup y.1 = some .cell) y hy e))) (fun hL => pe_bm PySem.F.plainAttrs_list PySem.F.slot_list_append PySem.F.type_list_append mt_append (pv 10) (pa_cons (pe_tup (pa_cons hL (pa_cons pe_str pa_nil))) pa_nil)) rfl)
      (psz_cons (ps_app (st := nthS sSC 11) (T := T) (i := 10) rfl TB rfl mem uniq rfl (fun ok y hy e => ok.has _ (.inl ((by decide +kernel : ∀ y ∈ (lamSc (callLam (nthS sSC 11))).names, y.2 = .free → (defScope sSC).names.lookup y.1 = some .cell) y hy e))) (fun hL => pe_bm PySem.F.plainAttrs_list PySem.F.slot_list_append PySem.F.type_list_append mt_append (pv 10) (pa_cons (pe_tup (pa_cons hL (pa_cons pe_str pa_nil))) pa_nil)) rfl)
      (psz_cons (ps_app (st := nthS sSC 12) (T := T) (i := 10) rfl TB rfl mem uniq rfl (fun ok y hy e => ok.has _ (.inl ((by decide +kernel : ∀ y ∈ (lamSc (callLam (nthS sSC 12))).names, y.2 = .free → (defScope sSC).names.lookup y.1 = some .cell) y hy e))) (fun hL => pe_bm PySem.F.plainAttrs_list PySem.F.slot_list_append PySem.F.type_list_append mt_append (pv 10) (pa_cons (pe_tup (pa_cons hL (pa_cons pe_str pa_nil))) pa_nil)) rfl)
      (psz_cons (ps_app (st := nthS sSC 13) (T := T) (i := 10) rfl TB rfl mem uniq rfl (fun ok y hy e => ok.has _ (.inl ((by decide +kernel : ∀ y ∈ (lamSc (callLam (nthS sSC 13))).names, y.2 = .free → (defScope sSC).names.lookup y.1 = some .cell) y hy e))) (fun hL => pe_bm PySem.F.plainAttrs_list PySem.F.slot_list_append PySem.F.type_list_append mt_append (pv 10) (pa_cons (pe_tup (pa_cons hL (pa_cons pe_str pa_nil))) pa_nil)) rfl)
      (psz_cons (ps_app (st := nthS sSC 14) (T := T) (i := 10) rfl TB rfl mem uniq rfl (fun ok y hy e => ok.has _ (.inl ((by decide +kernel : ∀ y ∈ (lamSc (callLam (nthS sSC 14))).names, y.2 = .free → (defScope sSC).names.lookup y.1 = some .cell) y hy e))) (fun hL => pe_bm PySem.F.plainAttrs_list PySem.F.slot_list_append PySem.F.type_list_append mt_append (pv 10) (pa_cons (pe_tup (pa_cons hL (pa_cons pe_str pa_nil))) pa_nil)) rfl)
      (psz_cons (ps_app (st := nthS sSC 15) (T := T) (i := 10) rfl TB rfl mem uniq rfl (fun ok y hy e => ok.has _ (.inl ((by decide +kernel : ∀ y ∈ (lamSc (callLam (nthS sSC 15))).names, y.2 = .free → (defScope sSC).names.lookup y.1 = some .cell) y hy e))) (fun hL => pe_bm PySem.F.plainAttrs_list PySem.F.slot_list_append PySem.F.type_list_append mt_append (pv 10) (pa_cons (pe_tup (pa_cons hL (pa_cons pe_str pa_nil))) pa_nil)) rfl)
      (psz_cons (ps_app (st := nthS sSC 16) (T := T) (i := 10) rfl TB rfl mem uniq rfl (fun ok y hy e => ok.has _ (.inl ((by decide +kernel : ∀ y ∈ (lamSc (callLam (nthS sSC 16))).names, y.2 = .free → (defScope sSC).names.lookup y.1 = some .cell) y hy e))) (fun hL => pe_bm PySem.F.plainAttrs_list PySem.F.slot_list_append PySem.F.type_list_append mt_append (pv 10) (pa_cons (pe_tup (pa_cons hL (pa_cons pe_str pa_nil))) pa_nil)) rfl)
      (psz_cons (ps_app (st := nthS sSC 17) (T := T) (i := 10) rfl TB rfl mem uniq rfl (fun ok y hy e => ok.has _ (.inl ((by decide +kernel : ∀ y ∈ (lamSc (callLam (nthS sSC 17))).names, y.2 = .free → (defScope sSC).names.lookup y.1 = some .cell) y hy e))) (fun hL => pe_bm PySem.F.plainAttrs_list PySem.F.slot_list_append PySem.F.type_list_append mt_append (pv 10) (pa_cons (pe_tup (pa_cons hL (pa_cons pe_str pa_nil))) pa_nil)) rfl)
      (psz_cons (ps_app (st := nthS sSC 18) (T := T) (i := 10) rfl TB rfl mem uniq rfl (fun ok y hy e => ok.has _ (.inl ((by decide +kernel : ∀ y ∈ (lamSc (callLam (nthS sSC 18))).names, y.2 = .free → (defScope sSC).names.lookup y.1 = some .cell) y hy e))) (fun hL => pe_bm PySem.F.plainAttrs_list PySem.F.slot_list_append PySem.F.type_list_append mt_append (pv 10) (pa_cons (pe_tup (pa_cons hL (pa_cons pe_str pa_nil))) pa_nil)) rfl)
      (psz_cons (ps_app (st := nthS sSC 19) (T := T) (i := 10) rfl TB rfl mem uniq rfl (fun ok y hy e => ok.has _ (.inl ((by decide +kernel : ∀ y ∈ (lamSc (callLam (nthS sSC 19))).names, y.2 = .free → (defScope sSC).names.lookup y.1 = some .cell) y hy e))) (fun hL => pe_bm PySem.F.plainAttrs_list PySem.F.slot_list_append PySem.F.type_list_append mt_append (pv 10) (pa_cons (pe_tup (pa_cons hL (pa_cons pe_str pa_nil))) pa_nil)) rfl)
      (psz_cons (ps_app (st := nthS sSC 20) (T := T) (i := 10) rfl TB rfl mem uniq rfl (fun ok y hy e => ok.has _ (.inl ((by decide +kernel : ∀ y ∈ (lamSc (callLam (nthS sSC 20))).names, y.2 = .free → (defScope sSC).names.lookup y.1 = some .cell) y hy e))) (fun hL => pe_bm PySem.F.plainAttrs_list PySem.F.slot_list_append PySem.F.type_list_append mt_append (pv 10) (pa_cons (pe_tup (pa_cons hL (pa_cons pe_str pa_nil))) pa_nil)) rfl)
      (psz_cons (ps_app (st := nthS sSC 21) (T := T) (i := 10) rfl TB rfl mem uniq rfl (fun ok y hy e => ok.has _ (.inl ((by decide +kernel : ∀ y ∈ (lamSc (callLam (nthS sSC 21))).names, y.2 = .free → (defScope sSC).names.lookup y.1 = some .cell) y hy e))) (fun hL => pe_bm PySem.F.plainAttrs_list PySem.F.slot_list_append PySem.F.type_list_append mt_append (pv 10) (pa_cons (pe_tup (pa_cons hL (pa_cons pe_str pa_nil))) pa_nil)) rfl)
      (psz_cons (ps_app (st := nthS sSC 22) (T := T) (i := 10) rfl TB rfl mem uniq rfl (fun ok y hy e => ok.has _ (.inl ((by decide +kernel : ∀ y ∈ (lamSc (callLam (nthS sSC 22))).names, y.2 = .free → (defScope sSC).names.lookup y.1 = some .cell) y hy e))) (fun hL => pe_bm PySem.F.plainAttrs_list PySem.F.slot_list_append PySem.F.type_list_append mt_append (pv 10) (pa_cons (pe_tup (pa_cons hL (pa_cons pe_str pa_nil))) pa_nil)) rfl)
      (psz_cons (ps_app (st := nthS sSC 23) (T := T) (i := 10) rfl TB rfl mem uniq rfl (fun ok y hy e => ok.has _ (.inl ((by decide +kernel : ∀ y ∈ (lamSc (callLam (nthS sSC 23))).names, y.2 = .free → (defScope sSC).names.lookup y.1 = some .cell) y hy e))) (fun hL => pe_bm PySem.F.plainAttrs_list PySem.F.slot_list_append PySem.F.type_list_append mt_append (pv 10) (pa_cons (pe_tup (pa_cons hL (pa_cons pe_str pa_nil))) pa_nil)) rfl)
      (psz_cons (ps_app (st := nthS sSC 24) (T := T) (i := 10) rfl TB rfl mem uniq rfl (fun ok y hy e => ok.has _ (.inl ((by decide +kernel : ∀ y ∈ (lamSc (callLam (nthS sSC 24))).names, y.2 = .free → (defScope sSC).names.lookup y.1 = some .cell) y hy e))) (fun hL => pe_bm PySem.F.plainAttrs_list PySem.F.slot_list_append PySem.F.type_list_append mt_append (pv 10) (pa_cons (pe_tup (pa_cons hL (pa_cons pe_str pa_nil))) pa_nil)) rfl)
      (psz_ret (pv 10)))))))))))))))))))))))))), ?_⟩
    have tlen : (ts.map V.ref).length = tb.length := by rw [List.length_map, ho.len]
    have hln := ok.len
    refine ⟨_, rfl, _, rfl, L, tl, tb, n, rfl, hL, ⟨ts, hl, ho⟩, ok, n1, by omega, fun o H0 no s0 bx => ?_⟩
    have dz : DiceAt H0 p := hD.keep fun _ e => s0 _ _ e
    refine ⟨_, rfl, _, rfl, p, L, 2, rfl, dz, hL.ne, by have := hL.few; omega, by decide, by decide, fun pl tm es zn H1 nm mp d1 b1 plain off mok z2 => ?_⟩
    refine ⟨pl, L, tm, es, zn, rfl, plain, mok, by omega, hL, fun m H2 nm2 s2 mac => ?_⟩
    have np1 : tl ≠ p := np
    refine ⟨by rw [sizeLine_eq]; simp only [List.length_cons, List.length_nil]; omega, fun tp htp => ?_⟩
    have s3 := same_two s2 (o := .tup [.ref o, .ref m]) htp
    have d0 : DiceAt (upd H2 tp (.tup [.ref o, .ref m])) p := d1.keep fun _ e => s3 _ _ e
    have bz0 : But p H0 (upd H2 tp (.tup [.ref o, .ref m])) := b1.trans (But.ofSame s3)
    have bt0 : ButT p H (upd H2 tp (.tup [.ref o, .ref m])) := (ButT.ofSame s0).trans (ButT.ofBut bz0)
    have T0 : Tabs T (upd H2 tp (.tup [.ref o, .ref m])) := tabs_but (hT.ext s0) dz bz0
    have bx := bx.bx (ButT.ofBut bz0).bx dz
    have hl := (ButT.ofBut bz0).bx.at_ dz (s0 _ _ hl) refs_no (fun _ => (nomatch ·)) fun _ => (nomatch ·)
    have mac := mac.same (same_upd htp (o := .tup [.ref o, .ref m]))
    have etp : (upd H2 tp (.tup [.ref o, .ref m])) tp = some (.tup [.ref o, .ref m]) := upd_same
    generalize upd H2 tp (.tup [.ref o, .ref m]) = H0' at d0 bt0 T0 bx hl mac etp ⊢
    refine ⟨tp, _, rfl, SqT.of etp, rfl, _, _, rfl, _, _, rfl, rfl, ?_⟩
    refine ⟨_, rfl, by rw [sizeLine_eq]; simp only [List.length_cons, List.length_nil]; omega, fun t5 ht5 => fun q5 hq5 => ⟨_, rfl, by rw [sizeLine_eq]; simp only [List.length_cons, List.length_nil]; omega, fun a1 ha1 => ?_⟩⟩
    have s0_1 := same_upd (o := .tup []) ht5
    have s1_1 := same_two s0_1 (o := .dK []) hq5
    have e_t5 := (same_upd hq5 (o := .dK []) _ _ (upd_same (H := H0') (a := t5) (o := .tup [])))
    have e_q5 := (upd_same (H := (upd H0' t5 (.tup []))) (a := q5) (o := .dK []))
    generalize (upd (upd H0' t5 (.tup [])) q5 (.dK [])) = G1 at s1_1 e_t5 e_q5 ha1 ⊢
    have g1 : DiceAt G1 p := d0.keep fun _ e => s1_1 _ _ e
    refine ⟨p, a1, _, rfl, g1.new ha1, g1.ne ha1, upd_same, by simp only [List.length_cons, List.length_nil]; omega, by simp only [List.length_cons, List.length_nil]; omega, fun vN H1 hv1 d1 b1 => ?_⟩
    have bt1 : ButT p H0' H1 := ButT.ofBut ((But.ofSame (s1_1.trans (same_upd ha1))).trans b1)
    have T1 : Tabs T H1 := tabs_but ((T0.ext s1_1).ext (same_upd ha1)) (g1.new ha1) b1
    have k_t5 := b1 _ _ (same_upd ha1 _ _ e_t5) (g1.off e_t5 fun _ _ _ => (nomatch ·))
    have k_q5 := b1 _ _ (same_upd ha1 _ _ e_q5) (g1.off e_q5 fun _ _ _ => (nomatch ·))
    clear e_t5 e_q5
    have hl := bt1.bx.at_ d0 hl refs_no (fun _ => (nomatch ·)) fun _ => (nomatch ·)
    have oN : OP H1 vN := by
      simp only [List.mem_cons, List.not_mem_nil, or_false] at hv1
      rcases hv1 with rfl | rfl | rfl | rfl | rfl | rfl | rfl
      · exact .non
      · exact .int _
      · exact .str _
      · exact .tup k_t5
      · exact .dic k_q5
      · exact .lst hl fun x y z e => refs_no x y z (by rw [e])
      · exact .bl _
    have bx := bx.bx bt1.bx d0
    have mac := mac.bx bt1.bx d0
    clear hv1 b1 ha1 g1 k_t5 k_q5 s1_1 s0_1 hq5 ht5
    refine ⟨by rw [sizeLine_eq]; simp only [List.length_cons, List.length_nil]; omega, fun t1 hz1 => ⟨by rw [sizeLine_eq]; simp only [List.length_cons, List.length_nil]; omega, fun t2 hz2 z dx hx hdx nze => ?_⟩⟩
    have z1 := same_upd (o := .tup [.int 0]) hz1
    have z2' := same_upd (o := .tup [.ref t1]) hz2
    have zr := z_rows (z2' _ _ upd_same) upd_same
    have z3 : Same (upd (upd H1 t1 (.tup [.int 0])) t2 (.tup [.ref t1])) (upd (upd (upd (upd H1 t1 (.tup [.int 0])) t2 (.tup [.ref t1])) dx (.own z)) z (.ins CB dx [])) := fun b o y => by rw [upd_ne (ne_of_none y hx), upd_ne (ne_of_none y hdx)]; exact y
    refine ⟨z, dx, [122], t2, [[0]], 1, rfl, let_z, upd_same, zr.keep (Same.tup' z3), tab_z, by decide, by decide, fun HZ zg1 zg2 zg3 => ⟨rfl, ?_⟩⟩
    have z4 : Same H1 HZ := fun b o y => zg2 b o (z3 _ _ (z2' _ _ (z1 _ _ y))) (ne_of_none (z2' _ _ (z1 _ _ y)) hx)
    have sz : Same H1 HZ := z4
    have bz : BoxAt CB HZ z [122] [[0]] := ⟨dx, t2, zg1, zg3⟩
    clear zr z3 z2' z1
    have dZ : DiceAt HZ p := d1.keep fun _ e => sz _ _ e
    have TZ : Tabs T HZ := T1.ext sz
    have hl := sz _ _ hl
    have bx := bx.same sz
    have mac := mac.same sz
    have oN := oN.bx (ButT.ofSame (p := p) sz).bx d1
    refine ⟨_, rfl, _, rfl, _, rfl, tl, _, rfl, .inl (SqL.of hl), by rw [sizeLine_eq]; simp only [List.length_cons, List.length_nil]; omega, fun t6 ht6 => ⟨by rw [sizeLine_eq]; simp only [List.length_cons, List.length_nil]; omega, fun a2 ha2 => ?_⟩⟩
    have s0_2 := same_upd (o := .tup []) ht6
    have e_t6 := (upd_same (H := HZ) (a := t6) (o := .tup []))
    generalize (upd HZ t6 (.tup [])) = G2 at s0_2 e_t6 ha2 ⊢
    have g2 : DiceAt G2 p := dZ.keep fun _ e => s0_2 _ _ e
    refine ⟨p, a2, _, rfl, g2.new ha2, g2.ne ha2, upd_same, by simp only [List.length_cons, List.length_nil]; omega, by simp only [List.length_cons, List.length_nil]; omega, fun vP H2 hv2 d2 b2 => ?_⟩
    have bt2 : ButT p HZ H2 := ButT.ofBut ((But.ofSame (s0_2.trans (same_upd ha2))).trans b2)
    have T2 : Tabs T H2 := tabs_but ((TZ.ext s0_2).ext (same_upd ha2)) (g2.new ha2) b2
    have k_t6 := b2 _ _ (same_upd ha2 _ _ e_t6) (g2.off e_t6 fun _ _ _ => (nomatch ·))
    clear e_t6
    obtain ⟨xP, oP⟩ : ∃ x, OddNum (tb.length : Int) H2 vP x := by
      simp only [List.mem_cons, List.not_mem_nil, or_false] at hv2
      rcases hv2 with rfl | rfl | rfl | rfl | rfl | rfl
      · exact ⟨_, .non, fun _ _ _ _ => rfl⟩
      · exact ⟨_, shw_neg, fun _ _ h _ => numB_neg h⟩
      · rw [tlen]
        exact ⟨_, .int _ (small_n (by omega) (by omega)).1 (small_n (by omega) (by omega)).2.1 (small_n (by omega) (by omega)).2.2, fun _ _ _ h => numB_big (Int.le_refl _) h⟩
      · exact ⟨_, .tru, fun _ _ _ _ => rfl⟩
      · exact ⟨_, .nul, fun _ _ _ _ => rfl⟩
      · exact ⟨_, .tup k_t6, fun _ _ _ _ => rfl⟩
    have oN := oN.bx bt2.bx dZ
    have bx := bx.bx bt2.bx dZ
    have mac := mac.bx bt2.bx dZ
    have bz := bz.bx bt2.bx dZ
    clear hv2 b2 ha2 g2 k_t6 s0_2 ht6
    refine ⟨by rw [sizeLine_eq]; simp only [List.length_cons, List.length_nil]; omega, fun tq htq => ?_⟩
    have sq := same_upd (o := .tup [.ref z, vP]) htq
    have dQ := d2.new (o := .tup [.ref z, vP]) htq
    have TQ : Tabs T (upd H2 tq (.tup [.ref z, vP])) := T2.ext sq
    have btQ : ButT p H2 (upd H2 tq (.tup [.ref z, vP])) := ButT.ofSame sq
    have oN := oN.bx btQ.bx d2
    have oP := oP.bx btQ.bx d2
    have bx := bx.same sq
    have bz := bz.same sq
    have mac := mac.same sq
    have etq : (upd H2 tq (.tup [.ref z, vP])) tq = some (.tup [.ref z, vP]) := upd_same
    generalize upd H2 tq (.tup [.ref z, vP]) = HQ at dQ TQ btQ oN oP bx bz mac etq ⊢
    refine ⟨tq, _, rfl, SqT.of etq, rfl, _, _, rfl, _, _, rfl, rfl, ?_⟩
    refine ⟨_, rfl, by rw [sizeLine_eq]; simp only [List.length_cons, List.length_nil]; omega, fun t8 ht8 => ⟨_, rfl, by rw [sizeLine_eq]; simp only [List.length_cons, List.length_nil]; omega, fun l8 hl8 => ⟨_, rfl, _, rfl, by rw [sizeLine_eq]; simp only [List.length_cons, List.length_nil]; omega, fun u8 hu8 => ⟨_, rfl, by rw [sizeLine_eq]; simp only [List.length_cons, List.length_nil]; omega, fun w8 hw8 => ⟨_, rfl, by rw [sizeLine_eq]; simp only [List.length_cons, List.length_nil]; omega, fun x8 hx8 => ⟨x8, 9, [.ref m], rfl, rfl, SqT.of upd_same, List.cons_ne_nil _ _, by decide, by decide, (by show 1 ≤ 1000; decide), fun y8 hy8 => fun q8 hq8 => ⟨by rw [sizeLine_eq]; simp only [List.length_cons, List.length_nil]; omega, fun a3 ha3 => ?_⟩⟩⟩⟩⟩⟩⟩
    have s0_3 := same_upd (o := .tup []) ht8
    have s1_3 := same_two s0_3 (o := .lst [.ref m]) hl8
    have s2_3 := same_two s1_3 (o := .tup [.ref m, vN]) hu8
    have s3_3 := same_two s2_3 (o := .tup [vN]) hw8
    have s4_3 := same_two s3_3 (o := .tup [.ref m]) hx8
    have s5_3 := same_two s4_3 (o := .tup (List.replicate (9 : Int).toNat [V.ref m]).flatten) hy8
    have s6_3 := same_two s5_3 (o := .dK []) hq8
    have e_t8 := (same_upd hq8 (o := .dK []) _ _ (same_upd hy8 (o := .tup (List.replicate (9 : Int).toNat [V.ref m]).flatten) _ _ (same_upd hx8 (o := .tup [.ref m]) _ _ (same_upd hw8 (o := .tup [vN]) _ _ (same_upd hu8 (o := .tup [.ref m, vN]) _ _ (same_upd hl8 (o := .lst [.ref m]) _ _ (upd_same (H := HQ) (a := t8) (o := .tup []))))))))
    have e_l8 := (same_upd hq8 (o := .dK []) _ _ (same_upd hy8 (o := .tup (List.replicate (9 : Int).toNat [V.ref m]).flatten) _ _ (same_upd hx8 (o := .tup [.ref m]) _ _ (same_upd hw8 (o := .tup [vN]) _ _ (same_upd hu8 (o := .tup [.ref m, vN]) _ _ (upd_same (H := (upd HQ t8 (.tup []))) (a := l8) (o := .lst [.ref m])))))))
    have e_u8 := (same_upd hq8 (o := .dK []) _ _ (same_upd hy8 (o := .tup (List.replicate (9 : Int).toNat [V.ref m]).flatten) _ _ (same_upd hx8 (o := .tup [.ref m]) _ _ (same_upd hw8 (o := .tup [vN]) _ _ (upd_same (H := (upd (upd HQ t8 (.tup [])) l8 (.lst [.ref m]))) (a := u8) (o := .tup [.ref m, vN]))))))
    have e_w8 := (same_upd hq8 (o := .dK []) _ _ (same_upd hy8 (o := .tup (List.replicate (9 : Int).toNat [V.ref m]).flatten) _ _ (same_upd hx8 (o := .tup [.ref m]) _ _ (upd_same (H := (upd (upd (upd HQ t8 (.tup [])) l8 (.lst [.ref m])) u8 (.tup [.ref m, vN]))) (a := w8) (o := .tup [vN])))))
    have e_x8 := (same_upd hq8 (o := .dK []) _ _ (same_upd hy8 (o := .tup (List.replicate (9 : Int).toNat [V.ref m]).flatten) _ _ (upd_same (H := (upd (upd (upd (upd HQ t8 (.tup [])) l8 (.lst [.ref m])) u8 (.tup [.ref m, vN])) w8 (.tup [vN]))) (a := x8) (o := .tup [.ref m]))))
    have e_y8 := (same_upd hq8 (o := .dK []) _ _ (upd_same (H := (upd (upd (upd (upd (upd HQ t8 (.tup [])) l8 (.lst [.ref m])) u8 (.tup [.ref m, vN])) w8 (.tup [vN])) x8 (.tup [.ref m]))) (a := y8) (o := .tup (List.replicate (9 : Int).toNat [V.ref m]).flatten)))
    have e_q8 := (upd_same (H := (upd (upd (upd (upd (upd (upd HQ t8 (.tup [])) l8 (.lst [.ref m])) u8 (.tup [.ref m, vN])) w8 (.tup [vN])) x8 (.tup [.ref m])) y8 (.tup (List.replicate (9 : Int).toNat [V.ref m]).flatten))) (a := q8) (o := .dK []))
    generalize (upd (upd (upd (upd (upd (upd (upd HQ t8 (.tup [])) l8 (.lst [.ref m])) u8 (.tup [.ref m, vN])) w8 (.tup [vN])) x8 (.tup [.ref m])) y8 (.tup (List.replicate (9 : Int).toNat [V.ref m]).flatten)) q8 (.dK [])) = G3 at s6_3 e_t8 e_l8 e_u8 e_w8 e_x8 e_y8 e_q8 ha3 ⊢
    have g3 : DiceAt G3 p := dQ.keep fun _ e => s6_3 _ _ e
    refine ⟨p, a3, _, rfl, g3.new ha3, g3.ne ha3, upd_same, by simp only [List.length_cons, List.length_nil]; omega, by simp only [List.length_cons, List.length_nil]; omega, fun vSm H3 hv3 d3 b3 => ?_⟩
    have bt3 : ButT p HQ H3 := ButT.ofBut ((But.ofSame (s6_3.trans (same_upd ha3))).trans b3)
    have T3 : Tabs T H3 := tabs_but ((TQ.ext s6_3).ext (same_upd ha3)) (g3.new ha3) b3
    have k_t8 := b3 _ _ (same_upd ha3 _ _ e_t8) (g3.off e_t8 fun _ _ _ => (nomatch ·))
    have k_l8 := b3 _ _ (same_upd ha3 _ _ e_l8) (g3.off e_l8 fun _ _ _ => (nomatch ·))
    have k_u8 := b3 _ _ (same_upd ha3 _ _ e_u8) (g3.off e_u8 fun _ _ _ => (nomatch ·))
    have k_w8 := b3 _ _ (same_upd ha3 _ _ e_w8) (g3.off e_w8 fun _ _ _ => (nomatch ·))
    have k_x8 := b3 _ _ (same_upd ha3 _ _ e_x8) (g3.off e_x8 fun _ _ _ => (nomatch ·))
    have k_y8 := b3 _ _ (same_upd ha3 _ _ e_y8) (g3.off e_y8 fun _ _ _ => (nomatch ·))
    have k_q8 := b3 _ _ (same_upd ha3 _ _ e_q8) (g3.off e_q8 fun _ _ _ => (nomatch ·))
    clear e_t8 e_l8 e_u8 e_w8 e_x8 e_y8 e_q8
    have oN := oN.bx bt3.bx dQ
    have mac := mac.bx bt3.bx dQ
    have oM : OddMs C H3 vSm := by
      have iat : InsAt C H3 m := let ⟨dx, _, _, _, e, _⟩ := mac.ex; ⟨dx, _, e⟩
      simp only [List.mem_cons, List.not_mem_nil, or_false] at hv3
      rcases hv3 with rfl | rfl | rfl | rfl | rfl | rfl | rfl | rfl
      · exact ⟨.non, fun _ _ => (nomatch ·)⟩
      · exact ⟨.int _, fun _ _ => (nomatch ·)⟩
      · exact om_tup k_t8 (by show 0 ≤ 100; decide) (fun _ h => (List.not_mem_nil h).elim) (.inr (.inl rfl))
      · exact om_lst k_l8 fun _ _ _ => (nomatch ·)
      · exact om_tup k_u8 (by show 2 ≤ 100; decide) (fun x hx => by simp only [List.mem_cons, List.not_mem_nil, or_false] at hx; rcases hx with rfl | rfl; exact (.inr ⟨m, rfl, iat⟩); exact .inl oN) (.inl ⟨_, .tail _ (.head _), oN⟩)
      · exact om_tup k_w8 (by show 1 ≤ 100; decide) (fun x hx => by rw [List.mem_singleton.mp hx]; exact .inl oN) (.inl ⟨_, .head _, oN⟩)
      · rw [nine] at k_y8
        exact om_tup k_y8 (by show 9 ≤ 100; decide) (fun x hx => by simp only [List.mem_cons, List.not_mem_nil, or_false, or_self] at hx; rw [hx]; exact (.inr ⟨m, rfl, iat⟩)) (.inr (.inr (by show 8 < 9; decide)))
      · exact om_dic k_q8
    have oP := oP.bx bt3.bx dQ
    have bx := bx.bx bt3.bx dQ
    have bz := bz.bx bt3.bx dQ
    clear hv3 b3 ha3 g3 k_t8 k_l8 k_u8 k_w8 k_x8 k_y8 k_q8 s6_3 s5_3 s4_3 s3_3 s2_3 s1_3 s0_3 hq8 hy8 hx8 hw8 hu8 hl8 ht8
    refine ⟨_, rfl, by rw [sizeLine_eq]; simp only [List.length_cons, List.length_nil]; omega, fun t9 ht9 => ⟨by rw [sizeLine_eq]; simp only [List.length_cons, List.length_nil]; omega, fun l9 hl9 => fun q9 hq9 => ⟨by rw [sizeLine_eq]; simp only [List.length_cons, List.length_nil]; omega, fun a4 ha4 => ?_⟩⟩⟩
    have s0_4 := same_upd (o := .tup [.str "a"]) ht9
    have s1_4 := same_two s0_4 (o := .lst []) hl9
    have s2_4 := same_two s1_4 (o := .dK []) hq9
    have e_t9 := (same_upd hq9 (o := .dK []) _ _ (same_upd hl9 (o := .lst []) _ _ (upd_same (H := H3) (a := t9) (o := .tup [.str "a"]))))
    have e_l9 := (same_upd hq9 (o := .dK []) _ _ (upd_same (H := (upd H3 t9 (.tup [.str "a"]))) (a := l9) (o := .lst [])))
    have e_q9 := (upd_same (H := (upd (upd H3 t9 (.tup [.str "a"])) l9 (.lst []))) (a := q9) (o := .dK []))
    generalize (upd (upd (upd H3 t9 (.tup [.str "a"])) l9 (.lst [])) q9 (.dK [])) = G4 at s2_4 e_t9 e_l9 e_q9 ha4 ⊢
    have g4 : DiceAt G4 p := d3.keep fun _ e => s2_4 _ _ e
    refine ⟨p, a4, _, rfl, g4.new ha4, g4.ne ha4, upd_same, by simp only [List.length_cons, List.length_nil]; omega, by simp only [List.length_cons, List.length_nil]; omega, fun vW H4 hv4 d4 b4 => ?_⟩
    have bt4 : ButT p H3 H4 := ButT.ofBut ((But.ofSame (s2_4.trans (same_upd ha4))).trans b4)
    have T4 : Tabs T H4 := tabs_but ((T3.ext s2_4).ext (same_upd ha4)) (g4.new ha4) b4
    have k_t9 := b4 _ _ (same_upd ha4 _ _ e_t9) (g4.off e_t9 fun _ _ _ => (nomatch ·))
    have k_l9 := b4 _ _ (same_upd ha4 _ _ e_l9) (g4.off e_l9 fun _ _ _ => (nomatch ·))
    have k_q9 := b4 _ _ (same_upd ha4 _ _ e_q9) (g4.off e_q9 fun _ _ _ => (nomatch ·))
    clear e_t9 e_l9 e_q9
    have oW : OddW H4 vW := by
      simp only [List.mem_cons, List.not_mem_nil, or_false] at hv4
      rcases hv4 with rfl | rfl | rfl | rfl | rfl | rfl
      · exact ⟨.non, fun _ => (nomatch ·)⟩
      · exact ⟨.int _, fun _ => (nomatch ·)⟩
      · exact ⟨.str _, fun x e => by cases e; decide +kernel⟩
      · exact ⟨.tup k_t9, fun _ => (nomatch ·)⟩
      · exact ⟨.lst k_l9 fun _ _ _ => (nomatch ·), fun _ => (nomatch ·)⟩
      · exact ⟨.dic k_q9, fun _ => (nomatch ·)⟩
    have oN := oN.bx bt4.bx d3
    have oP := oP.bx bt4.bx d3
    have oM := oM.bx bt4.bx d3
    have bx := bx.bx bt4.bx d3
    have bz := bz.bx bt4.bx d3
    have mac := mac.bx bt4.bx d3
    clear hv4 b4 ha4 g4 k_t9 k_l9 k_q9 s2_4 s1_4 s0_4 hq9 hl9 ht9
    have bt : ButT p H H4 := bt0.trans (bt1.trans ((ButT.ofSame sz).trans (bt2.trans (btQ.trans (bt3.trans bt4)))))
    have h1 : 1 ≤ tb.length := by omega
    have h9 : tb.length ≤ 1000 := by omega
    refine ⟨_, T4, fun _ _ _ q => q, fun a G1 na inv => ?_⟩
    refine app_step rfl na inv (by simp only [List.length_cons, List.length_nil, List.length_append]; omega) (fun _ _ _ q => q) fun G2 inv => ?_
    refine app_step rfl na inv (by simp only [List.length_cons, List.length_nil, List.length_append]; omega) (fun _ _ _ q => q) fun G2 inv => ?_
    refine app_step rfl na inv (by simp only [List.length_cons, List.length_nil, List.length_append]; omega) (fun _ _ _ q => q) fun G2 inv => ?_
    refine app_step rfl na inv (by simp only [List.length_cons, List.length_nil, List.length_append]; omega) (fun G Q ex q => ⟨_, rfl, vP, xP, rfl, (oP.bx (ButT.ofX ex).bx d4).1, _, _, rfl, rfl, by have := oP.1.few; rw [sizeLine_eq]; show 7 + xP.length ≤ _; omega, q⟩) fun G2 inv => ?_
    refine app_step rfl na inv (by simp only [List.length_cons, List.length_nil, List.length_append]; omega) (fun _ _ _ q => q) fun G2 inv => ?_
    refine app_step rfl na inv (by simp only [List.length_cons, List.length_nil, List.length_append]; omega) (fun _ _ _ q => q) fun G2 inv => ?_
    refine app_step rfl na inv (by simp only [List.length_cons, List.length_nil, List.length_append]; omega) (fun _ _ _ q => q) fun G2 inv => ?_
    refine app_step rfl na inv (by simp only [List.length_cons, List.length_nil, List.length_append]; omega) (fun _ _ _ q => q) fun G2 inv => ?_
    refine app_step rfl na inv (by simp only [List.length_cons, List.length_nil, List.length_append]; omega) (fun _ _ _ q => q) fun G2 inv => ?_
    refine app_step rfl na inv (by simp only [List.length_cons, List.length_nil, List.length_append]; omega) (fun _ _ _ q => q) fun G2 inv => ?_
    refine app_step rfl na inv (by simp only [List.length_cons, List.length_nil, List.length_append]; omega) (fun _ _ _ q => q) fun G2 inv => ?_
    refine app_step rfl na inv (by simp only [List.length_cons, List.length_nil, List.length_append]; omega) (fun _ _ _ q => q) fun G2 inv => ?_
    refine app_step rfl na inv (by simp only [List.length_cons, List.length_nil, List.length_append]; omega) (fun _ _ _ q => q) fun G2 inv => ?_
    refine app_step rfl na inv (by simp only [List.length_cons, List.length_nil, List.length_append]; omega) (fun _ _ _ q => q) fun G2 inv => ?_
    refine app_step rfl na inv (by simp only [List.length_cons, List.length_nil, List.length_append]; omega) (fun _ _ _ q => q) fun G2 inv => ?_
    refine app_step rfl na inv (by simp only [List.length_cons, List.length_nil, List.length_append]; omega) (fun _ _ _ q => q) fun G2 inv => ?_
    refine app_step rfl na inv (by simp only [List.length_cons, List.length_nil, List.length_append]; omega) (fun _ _ _ q => q) fun G2 inv => ?_
    refine app_step rfl na inv (by simp only [List.length_cons, List.length_nil, List.length_append]; omega) (fun _ _ _ q => q) fun G2 inv => ?_
    refine app_step rfl na inv (by simp only [List.length_cons, List.length_nil, List.length_append]; omega) (fun _ _ _ q => q) fun G2 inv => ?_
    refine ⟨_, rfl, [vW, vSm, vP, .ref m, vN, .ref z, .ref o], rfl, fun cs ft n => ?_⟩
    refine calls_out out bt d4 inv (by simp only [List.length_cons, List.length_nil, List.length_append]; omega) ft n fun dG ex y hy => ?_
    have b6 := (ButT.ofX (p := p) ex).bx
    have oW := oW.bx b6 d4
    have oP := oP.bx b6 d4
    have oN := oN.bx b6 d4
    have oM := oM.bx b6 d4
    have bx := bx.bx b6 d4
    have bz := bz.bx b6 d4
    have mac := mac.bx b6 d4
    simp only [List.cons_append, List.nil_append, List.mem_cons, List.not_mem_nil, or_false] at hy
    rcases hy with rfl | rfl | rfl | rfl | rfl | rfl | rfl | rfl | rfl | rfl | rfl | rfl | rfl | rfl | rfl | rfl | rfl | rfl | rfl | rfl
    · exact ⟨tell_SC5 Lb dG bx mac bz fL2 oW oP oN oM h1 h9, (by decide +kernel)⟩
    · exact ⟨tell_SC6 Lb dG bx mac bz fL2 oW oP oN oM h1 h9, (by decide +kernel)⟩
    · exact ⟨tell_SC7 Lb dG bx mac bz fL2 oW oP oN oM h1 h9, (by decide +kernel)⟩
    · exact ⟨tell_SC8 Lb dG bx mac bz fL2 oW oP oN oM h1 h9, (by decide +kernel)⟩
    · exact ⟨tell_SC9 Lb dG bx mac bz fL2 oW oP oN oM h1 h9, lay_num oP.1.lay⟩
    · exact ⟨tell_SC10 Lb dG bx mac bz fL2 oW oP oN oM h1 h9, (by decide +kernel)⟩
    · exact ⟨tell_SC11 Lb dG bx mac bz fL2 oW oP oN oM h1 h9, (by decide +kernel)⟩
    · exact ⟨tell_SC12 Lb dG bx mac bz fL2 oW oP oN oM h1 h9, (by decide +kernel)⟩
    · exact ⟨tell_SC13 Lb dG bx mac bz fL2 oW oP oN oM h1 h9, (by decide +kernel)⟩
    · exact ⟨tell_SC14 Lb dG bx mac bz fL2 oW oP oN oM h1 h9, (by decide +kernel)⟩
    · exact ⟨tell_SC15 Lb dG bx mac bz fL2 oW oP oN oM h1 h9, (by decide +kernel)⟩
    · exact ⟨tell_SC16 Lb dG bx mac bz fL2 oW oP oN oM h1 h9, (by decide +kernel)⟩
    · exact ⟨tell_SC17 Lb dG bx mac bz fL2 oW oP oN oM h1 h9, (by decide +kernel)⟩
    · exact ⟨tell_SC18 Lb dG bx mac bz fL2 oW oP oN oM h1 h9, (by decide +kernel)⟩
    · exact ⟨tell_SC19 Lb dG bx mac bz fL2 oW oP oN oM h1 h9, (by decide +kernel)⟩
    · exact ⟨tell_SC20 Lb dG bx mac bz fL2 oW oP oN oM h1 h9, (by decide +kernel)⟩
    · exact ⟨tell_SC21 Lb dG bx mac bz fL2 oW oP oN oM h1 h9, (by decide +kernel)⟩
    · exact ⟨tell_SC22 Lb dG bx mac bz fL2 oW oP oN oM h1 h9, (by decide +kernel)⟩
    · exact ⟨tell_SC23 Lb dG bx mac bz fL2 oW oP oN oM h1 h9, (by decide +kernel)⟩
    · exact ⟨tell_SC24 Lb dG bx mac bz fL2 oW oP oN oM h1 h9, (by decide +kernel)⟩
end
end WK
set_option Elab.async false
set_option linter.all false
set_option maxRecDepth 100000
set_option maxHeartbeats 8000000
namespace FV
open PySem PySem.Spec PyProof.Rows L2 LamX NdefX
section
variable {H H' : Hp} {h h' : Heap} {cs : Cs} {fs ex : List Addr} {P : Program} {w : World}
theorem un_offX (u : Un fs ex (onn cs H) H' h h') (n : ∀ p ∈ cs, H p.1 = none) (at_ : ∀ p ∈ cs, h.get? p.1 = some p.2) (ok : HOk P w H' h') (l : Lay cs H') : Un fs ex H (off cs H') h h' := by
  have out : ∀ {d : Addr} {o : HO}, H d = some o → d ∉ cs.map (·.1) := fun {d o} q z => by
    obtain ⟨p, hp, rfl⟩ := List.mem_map.mp z
    rw [n p hp] at q
    cases q
  refine ⟨fun b o e nb hb hx => ?_, fun b o e nb hb hx => ?_, fun b o e nb hx => ?_, u.there, fun b xs e => ?_, fun b o v e => ?_, fun b ps e => ?_⟩
  · by_cases hc : b ∈ cs.map (·.1)
    · obtain ⟨p, hp, rfl⟩ := List.mem_map.mp hc
      rw [lay_at ok l p hp, ← e, at_ p hp]
    · exact u.keep b o e (by rw [onn_out hc]; exact nb) hb hx
  · by_cases hc : b ∈ cs.map (·.1)
    · obtain ⟨p, hp, rfl⟩ := List.mem_map.mp hc
      exact ⟨o.slots, by rw [lay_at ok l p hp, ← at_ p hp, e]⟩
    · exact u.slot b o e (by rw [onn_out hc]; exact nb) hb hx
  · by_cases hc : b ∈ cs.map (·.1)
    · exact off_in hc
    · rw [off_out hc]
      exact u.free b o e (by rw [onn_out hc]; exact nb) hx
  · have y := u.tups b xs (by rw [onn_out (out e)]; exact e)
    rw [off_out (lay_not l y fun _ z => nomatch z)]
    exact y
  · have y := u.frzs b o v (by rw [onn_out (out e)]; exact e)
    rw [off_out (lay_not l y fun _ z => nomatch z)]
    exact y
  · obtain ⟨more, y⟩ := u.tbls b ps (by rw [onn_out (out e)]; exact e)
    exact ⟨more, by rw [off_out (lay_not l y fun _ z => nomatch z)]; exact y⟩
end
/-- [elt for target in iter], read where the cells cs are told -/
def tLcK (wi : TI) (g : TG) (te : TE) (vs : List Nat) (cl : List (Str × Addr)) (fr : List Str) (js : List Nat) : TE := fun σ H Q => wi σ H fun J H1 => ∀ D, H1 D = none → ∃ vals : List V, js.map (fun j => σ[j]?) = vals.map (fun v => some (some v)) ∧
  ∀ cs, Fits cl fr cs vals → (∀ p ∈ cs, (upd H1 D (.lst [])) p.1 = none) → ∃ W : Nat → Nat → Hp → Prop, (∃ m, W 0 m (onn cs (upd H1 D (.lst [])))) ∧ ∀ i m G, W i m G →
    (J.stop i G ∧ Lay cs G ∧ Q (.ref D) (off cs G)) ∨ (J.go i G ∧ ∃ Nx : Hp → Prop, (∀ G', Nx G' → ∃ m', m' < m ∧ W (i + 1) m' G') ∧ ∀ x G', J.yld i G x G' → g x (wipe σ vs) G' fun σ2 G2 => wipe σ2 vs = wipe σ vs ∧
      te σ2 G2 fun y G4 => ∃ acc, G4 D = some (.lst acc) ∧ acc.length < sizeLine ∧ Nx (upd G4 D (.lst (acc ++ [y]))))
section
variable {X : Cx} {elt tg iter : Expr} {scope : Scope} {own : List (Str × Nat)} {pos : Pos} {wi : TI} {g : TG} {te : TE} {cl : List (Str × Addr)} {fr : List Str} {js : List Nat}
/-- the block's beginning, the cells told -/
theorem blk_on {s s' : Shared} {H : Hp} {σ : L2.St} {cs : Cs} {ce : Env} {fp : List Addr} (I : Inv (X.blk s H scope ce fp) [] σ H s') (J : Inv X pins σ0 H s) (nd : (cs.map (·.1)).Nodup) (n : ∀ p ∈ cs, H p.1 = none) (at_ : ∀ p ∈ cs, s.heap.get? p.1 = some p.2) (kp : ∀ b o, s.heap.get? b = some o → s'.heap.get? b = some o)
    (young : ∀ p ∈ cs, X.s_0.heap.objs.size ≤ p.1 ∧ p.1 ≠ X.env.locals) (loc : ce.locals = s.heap.objs.size) (none_ : ce.cells = []) : Inv (X.blk s (onn cs H) scope ce fp) [] σ (onn cs H) s' := by
  have old : ∀ b, (∀ p ∈ cs, p.1 ≠ b) → onn cs H b = H b := fun b k => onn_out fun z => by
    obtain ⟨p, hp, e⟩ := List.mem_map.mp z
    exact k p hp e
  refine ⟨⟨I.ok.mod, I.ok.kind, I.ok.glob, I.ok.blt, I.ok.above, I.ok.inj, I.ok.has, I.ok.cab, I.ok.hd, I.ok.frames, I.ok.stk, I.ok.exf, fun b o e => ⟨(I.ok.bs b o e).1, ?_⟩, I.ok.bsz, I.ok.noex, I.ok.exfs, I.ok.funs, fun b hb => ?_⟩, I.os, I.bare, Un.kept kp, I.loc, I.cell, ?_, fun x c e => ?_, fun p hp => ?_, hok_on I.hok nd n fun p hp => kp _ _ (at_ p hp), I.len⟩
  · show onn cs H b = none
    rw [old b fun p hp z => absurd (Nat.lt_of_lt_of_le (Heap.lt_size e) J.ok.bsz) (Nat.not_lt.mpr (z ▸ (young p hp).1))]
    exact (I.ok.bs b o e).2
  · show onn cs H b = none
    rw [old b fun p hp z => ?_]
    · exact I.ok.frf b hb
    · rcases List.mem_cons.mp (J.stkSub b hb) with y | y
      · exact (young p hp).2 (z.trans y)
      · obtain ⟨_, o, ho, _⟩ := J.ok.funs.mem y
        exact absurd (Heap.lt_size ho) (Nat.not_lt.mpr (z ▸ (young p hp).1))
  · show onn cs H ce.locals = none
    rw [old _ fun p hp z => Nat.ne_of_lt (Heap.lt_size (at_ p hp)) (z.trans loc)]
    exact I.free
  · have e : ce.cells.lookup x = some c := e
    rw [none_] at e
    cases e
  · exact absurd (show p ∈ ([] : List (Addr × Obj)) ++ [] from hp) (by simp)
theorem pe_lcK (hc : X.calm = true) (hN : X.N.Nodup) (hi : PI X tg iter wi) (ok : BlkOk X.N X.env.scope scope own) (nf : ∀ y ∈ scope.names, y.2 ≠ .free) (nc : ∀ n, cellsFrom n scope.names (cloFrom X.env.cells scope.names []) = [])
    (cp : X.Ok → Caps X cl fr js) (only : ∀ (y : Str) (c : Addr), cl.lookup y = some c → y ∈ fr) (nd : fr.Nodup) (mine : ∀ y ∈ fr, X.fn y = true)
    (hg : ∀ (s : Shared) (H : Hp) (C : Addr) (cl : List (Str × Addr)) (fp : List Addr), PG (X.blk s H scope (compEnvC scope cl C X.env) fp) tg g) (he : ∀ (s : Shared) (H : Hp) (C : Addr) (cl : List (Str × Addr)) (fp : List Addr), PE (X.blk s H scope (compEnvC scope cl C X.env) fp) elt te)
    (hs : ∀ x, foldedSetIterable iter X.env x = pure x := by intro _; rfl) : PE X (.ListComp elt [⟨tg, iter, [], 0⟩] scope pos) (tLcK wi g te (own.map (·.2)) cl fr js) := by
  refine ⟨fun pins s σ H Q I told => ?_⟩
  rw [eval_ListComp]
  refine wpAny_comprehension_free (use := none) rfl hs (closure_ok fun y hy e => absurd e (nf y hy)) ok.kind (fun y hy e => (ok.uniq y hy).trans (congrArg some e)) (wpAny_mono (hi.run pins s σ H _ I told) (fun _ _ come => wpAny_mono come (fun _ s2 ⟨it, fp, tn, J, H2, ev, I2, T, t2, ft2, q⟩ => ?_) fun _ _ z => z) fun _ _ z => z)
  subst ev
  refine wpAny_newObj_type (newEnv_comp ?_) (Nat.zero_le _)
  -- the list that grows
  have I3 : Inv X pins σ (upd H2 s2.heap.objs.size (.lst [])) { s2 with heap := s2.heap.push { cls := .type "list", data := .seq ([] : List Value).toArray } } := I2.laid (t' := s2.toks) (fun _ _ e => Heap.get?_push_of_some _ e) (Nat.le_refl _) ⟨Nat.zero_le _, [], 0, .nil, Heap.get?_push_size _ rfl⟩
  have nD : H2 s2.heap.objs.size = none := I2.hok.fresh (Nat.le_refl _)
  have up : ∀ b o, s2.heap.get? b = some o → (s2.heap.push { cls := .type "list", data := .seq ([] : List Value).toArray }).get? b = some o := fun _ _ e => Heap.get?_push_of_some _ e
  have grown : (s2.heap.push { cls := .type "list", data := .seq ([] : List Value).toArray }).objs.size = s2.heap.objs.size + 1 := Heap.size_push ..
  obtain ⟨vals, hv, q⟩ := q _ nD
  generalize hD : s2.heap.objs.size = D at I3 nD q grown ⊢
  have fp3 : ∀ b ∈ fp, FpOk X pins (upd H2 D (.lst [])) b ∧ b < D := fun b hb => by
    obtain ⟨o, e, _⟩ := T.obj _ _ t2 b hb
    have lt : b < D := by rw [← hD]; exact Heap.lt_size e
    exact ⟨⟨by rw [upd_ne (Nat.ne_of_lt lt)]; exact (ft2 b hb).1, (ft2 b hb).2⟩, lt⟩
  have t3 := T.keep _ _ _ t2 fun b _ o e => up b o e
  generalize (s2.heap.push { cls := .type "list", data := .seq ([] : List Value).toArray }) = h3 at I3 t3 grown up ⊢
  generalize hs3 : ({ s2 with heap := h3 } : Shared) = s3 at I3 ⊢
  have e3 : s3.heap = h3 := by rw [← hs3]
  have o3 : s3.toks = s2.toks ∧ s3.gens = s2.gens := by rw [← hs3]; exact ⟨rfl, rfl⟩
  subst e3
  obtain ⟨cs, fit, hcs⟩ := fits_of I3 (cp I3.ok) only nd hv
  have nn : ∀ p ∈ cs, (upd H2 D (.lst [])) p.1 = none := fun p hp => (hcs p hp).1
  have at3 : ∀ p ∈ cs, s3.heap.get? p.1 = some p.2 := fun p hp => (hcs p hp).2.1
  have young : ∀ p ∈ cs, X.s_0.heap.objs.size ≤ p.1 ∧ p.1 ≠ X.env.locals := fun p hp => let ⟨y, hy, e⟩ := (hcs p hp).2.2; ⟨I3.ok.cab y p.1 (mine y hy) e, I3.cne y p.1 e⟩
  obtain ⟨W, ⟨m0, w0⟩, turn⟩ := q cs fit nn
  have I4 := block_start I3 ok hN fun b hb => ⟨(fp3 b hb).1, by rw [grown]; exact Nat.lt_succ_of_lt (fp3 b hb).2⟩
  have kp : ∀ b o, s3.heap.get? b = some o → (pushCells (s3.heap.push { cls := .type "dict", data := .dict #[] }) scope.names).get? b = some o := fun b o e => pushCells_keeps _ _ _ _ (Heap.get?_push_of_some _ e)
  have I5 := blk_on I4 I3 fit.nd nn at3 kp young rfl (nc _)
  have t4 := T.keep _ _ _ t3 fun b _ o e => kp b o e
  have pg := hg s3 (onn cs (upd H2 D (.lst []))) s3.heap.objs.size (cellsFrom (s3.heap.objs.size + 1) scope.names (cloFrom X.env.cells scope.names [])) fp
  have pe := he s3 (onn cs (upd H2 D (.lst []))) s3.heap.objs.size (cellsFrom (s3.heap.objs.size + 1) scope.names (cloFrom X.env.cells scope.names [])) fp
  show codeAny _ _ (.compStart (.ListComp elt [⟨tg, iter, [], 0⟩] scope pos) 0 (.ref it) (.ref D) (compEnvC scope (cellsFrom (s3.heap.objs.size + 1) scope.names (cloFrom X.env.cells scope.names [])) s3.heap.objs.size X.env)) (compPost _ _ _ none _ (.ref D) s3.heap.objs.size) { s3 with heap := pushCells (s3.heap.push { cls := .type "dict", data := .dict #[] }) scope.names }
  have cL : (compEnvC scope (cellsFrom (s3.heap.objs.size + 1) scope.names (cloFrom X.env.cells scope.names [])) s3.heap.objs.size X.env).locals = s3.heap.objs.size := rfl
  generalize compEnvC scope (cellsFrom (s3.heap.objs.size + 1) scope.names (cloFrom X.env.cells scope.names [])) s3.heap.objs.size X.env = ce at I5 pg pe cL ⊢
  have nfp : ∀ b ∈ fp, (onn cs (upd H2 D (.lst []))) b = none := fun b hb => by
    rw [onn_out fun z => by
      obtain ⟨p, hp, e⟩ := List.mem_map.mp z
      obtain ⟨y, hy, e2⟩ := (hcs p hp).2.2
      exact (fp3 b hb).1.2.2.2.2.1 y p.1 e2 e]
    exact (fp3 b hb).1.1
  generalize hB : X.blk s3 (onn cs (upd H2 D (.lst []))) scope ce fp = B at I5 pg pe
  have own_ : ∀ {σ' : L2.St} {G : Hp} {s' : Shared}, Inv B [] σ' G s' → (∀ b ∈ fp, G b = none) → ∀ b ∈ fp, FpOk B [] G b := fun {σ' G s'} K gn b hb => by
    subst hB
    exact ⟨gn b hb, (K.ok.exf b hb).1, K.ok.exfs b hb, .inl hb, (K.ok.exf b hb).2, fun p hp => absurd (show p ∈ ([] : List (Addr × Obj)) ++ [] from hp) (by simp)⟩
  refine codeAny_compStart_list ?loop (T.self X.A 0 _ _ _ t4 ?loop)
  refine compLoop_any (fun m s' => ∃ i G, Inv B [] (wipe σ (own.map (·.2))) G s' ∧ tn i s'.heap ∧ (∀ b ∈ fp, G b = none) ∧ W i m G) ?_ m0 ⟨0, _, I5, t4, nfp, w0⟩
  rintro m s5 ⟨i, G, K5, t5, n5, w5⟩
  rcases turn i m G w5 with ⟨stop, lay, fin⟩ | ⟨go, Nx, less, step⟩
  · have dn := T.done B (by rw [← hB]) (by rw [← hB]) (by rw [← hB]) (by rw [← hB]; exact hc) i [] s5 _ G (fun _ _ => False) K5 (own_ K5 n5) t5 stop
    rw [show B.A = X.A by rw [← hB]] at dn
    refine thnF dn fun r s6 ⟨hr, K6⟩ => ?_
    subst hr
    subst hB
    have nL : off cs G s3.heap.objs.size = none := by
      by_cases z : s3.heap.objs.size ∈ cs.map (·.1)
      · exact off_in z
      · rw [off_out z, ← cL]
        exact K6.free
    have I7 : Inv X pins σ (off cs G) s6 := I3.call' (ch := fp) K6.os (un_offX K6.base nn at3 K6.hok lay) (hok_off K6.hok lay) K6.bare fun b hb => ⟨(fp3 b hb).1.2.2.2.1, (fp3 b hb).1.2.1, (fp3 b hb).1.2.2.2.2.1, (fp3 b hb).1.2.2.2.2.2⟩
    obtain ⟨mm, ns, _⟩ := K6.loc
    have ns : s6.heap.Ns ce.locals mm := ns
    rw [cL] at ns
    obtain ⟨f0, f1, f2, f3, f4, f5⟩ := I3.fpOk (Nat.le_refl _) nL
    exact ⟨mm, ns, fun h' sb => ⟨.ref D, _, I7.turned (t' := s6.toks) (fun b o hb e => (sb.2 b hb).trans e) f0 f1 f3 f4 f5, rfl, fin⟩⟩
  · have BP : B.prog = X.prog ∧ B.w = X.w ∧ B.K = X.K ∧ B.A = X.A ∧ B.env = ce ∧ B.calm = X.calm ∧ B.xe = fun _ _ => False := by rw [← hB]; exact ⟨rfl, rfl, rfl, rfl, rfl, rfl, rfl⟩
    have it_ := T.item B BP.1 BP.2.1 BP.2.2.1 (BP.2.2.2.2.2.1.trans hc) i [] s5 _ G (fun _ _ => False) K5 (own_ K5 n5) t5 go
    rw [BP.2.2.2.1] at it_
    refine thnF it_ fun r s6 ⟨u, hr, more⟩ => ?_
    subst hr
    refine thnF more fun _ s7 ⟨x, G7, K7, rv, y7, t7, n7⟩ => ?_
    have K7' := K7.pinned (own_ K7 n7) (T.obj _ _ t7)
    have r1 := pg.run _ s7 _ G7 x u _ K7' rv (step x G7 y7)
    subst hB
    refine thnF r1 fun _ s8 ⟨σ8, G8, K8, same, q8⟩ => wpAny_pure ?_
    show wpAny _ _ _ _ _ _
    refine thnF (pe.run _ s8 σ8 G8 _ K8 q8) fun v s9 ⟨yv, G9, K9, r9, acc, aD, few, nx⟩ => ?_
    refine app_ok (X := X.blk s3 (onn cs (upd H2 D (.lst []))) scope ce fp) K9 aD few r9 fun s10 K10 => ?_
    obtain ⟨m', lt, w'⟩ := less _ nx
    have still : ∀ b ∈ fp, ∀ o, s7.heap.get? b = some o → s10.heap.get? b = some o ∧ (upd G9 D (.lst (acc ++ [yv]))) b = none := fun b hb o e =>
      let z := K10.pin (b, o) (List.mem_append_right _ (List.mem_append_right _ (mem_pinsAt hb e)))
      ⟨z.1, z.2.1⟩
    refine ⟨m', lt, i + 1, _, (K10.unpinned (pins := [])).weak (by rw [← same, wipe_length]) (fun j v e => ?_), T.keep _ _ _ t7 fun b hb o e => (still b hb o e).1, fun b hb => ?_, w'⟩
    · rw [← same] at e
      exact (wipe_some e).1
    · obtain ⟨o, e, _⟩ := T.obj _ _ t7 b hb
      exact (still b hb o e).2
end
end FV
set_option Elab.async false
set_option linter.all false
set_option maxRecDepth 100000
set_option maxHeartbeats 8000000
namespace FV
open PySem PySem.Spec PyProof.Rows L2 LamX NdefX
theorem lcK_list {K : PySem.W.Frag} {a : Addr} {xs : List V} {g : TG} {te : TE} {vs : List Nat} {σ : L2.St} {H1 : Hp} {D : Addr} {Qd : Hp → Prop} {cs : Cs} (out : D ∉ cs.map (·.1)) (Pv : Nat → Hp → Prop) (h0 : Pv 0 (onn cs (upd H1 D (.lst [])))) (hl : ∀ i H, i ≤ xs.length → Pv i H → SqL K H a xs)
    (hs : ∀ i x H, xs[i]? = some x → Pv i H → g x (wipe σ vs) H fun σ2 H2 => wipe σ2 vs = wipe σ vs ∧ te σ2 H2 fun y H4 => ∃ acc, H4 D = some (.lst acc) ∧ acc.length < sizeLine ∧ Pv (i + 1) (upd H4 D (.lst (acc ++ [y])))) (hd : ∀ H, Pv xs.length H → Lay cs H ∧ Qd H) :
    ∃ W : Nat → Nat → Hp → Prop, (∃ m, W 0 m (onn cs (upd H1 D (.lst [])))) ∧ ∀ i m G, W i m G →
      ((Itl K a).stop i G ∧ Lay cs G ∧ Qd G) ∨ ((Itl K a).go i G ∧ ∃ Nx : Hp → Prop, (∀ G', Nx G' → ∃ m', m' < m ∧ W (i + 1) m' G') ∧ ∀ x G', (Itl K a).yld i G x G' → g x (wipe σ vs) G' fun σ2 G2 => wipe σ2 vs = wipe σ vs ∧
        te σ2 G2 fun y G4 => ∃ acc, G4 D = some (.lst acc) ∧ acc.length < sizeLine ∧ Nx (upd G4 D (.lst (acc ++ [y])))) := by
  have e : upd (onn cs (upd H1 D (.lst []))) D (.lst []) = onn cs (upd H1 D (.lst [])) := funext fun b => by
    by_cases z : b = D
    · rw [z, upd_same, onn_out out, upd_same]
    · rw [upd_ne z]
  have r := lc_list (K := K) (tt := tYes) (te := te) (σ := σ) (H1 := onn cs (upd H1 D (.lst []))) (D := D) (Qd := fun G => Lay cs G ∧ Qd G) Pv (by rw [e]; exact h0) hl hs hd
  rw [e] at r
  exact r
end FV
namespace WK
open PySem L2 PyProof.Rows LCX K1 FV LamX NdefX RM
open TX (sg sigs)
open PySem.W (Frag kitOne)
/-- a row of what is no table -/
def RowO (H : Hp) (x : V) (r : Option (List V)) : Prop := ∃ t, x = .ref t ∧ ((∃ ys, H t = some (.tup ys) ∧ ys.length ≤ 100 ∧ (∀ y ∈ ys, isNum y) ∧ r = some ys) ∨ ∃ ys, H t = some (.lst ys) ∧ (∀ x y z : Int, ys ≠ [.int x, .int y, .int z]) ∧ r = none)
def RowsO (H : Hp) : List V → List (Option (List V)) → Prop
  | [], [] => True
  | x :: xs, r :: rs => RowO H x r ∧ RowsO H xs rs
  | _, _ => False
/-- a drawn value that is no table of one letter -/
def OddB (H : Hp) (v : V) : Prop := OP H v ∧ ∀ a xs, v = .ref a → H a = some (.tup xs) → xs.length ≤ 100 ∧ ∃ rs, RowsO H xs rs ∧ tabB rs 1 6 = false
theorem RowsO.bx {p : Addr} {H H' : Hp} (b : Bx p H H') (d : DiceAt H p) : ∀ {xs : List V} {rs : List (Option (List V))}, RowsO H xs rs → RowsO H' xs rs
  | [], [], _ => trivial
  | _ :: _, _ :: _, ⟨⟨t, e, h⟩, r⟩ => ⟨⟨t, e, h.elim (fun ⟨ys, h1, h2⟩ => .inl ⟨ys, b.at_ d h1 (fun _ _ _ => (nomatch ·)) (fun _ => (nomatch ·)) fun _ => (nomatch ·), h2⟩) fun ⟨ys, h1, h2, h3⟩ => .inr ⟨ys, b.at_ d h1 (fun x y z e => h2 x y z (HO.lst.inj e)) (fun _ => (nomatch ·)) fun _ => (nomatch ·), h2, h3⟩⟩, r.bx b d⟩
  | [], _ :: _, h => h.elim
  | _ :: _, [], h => h.elim
theorem OddB.bx {p : Addr} {H H' : Hp} {v : V} (h : OddB H v) (b : Bx p H H') (d : DiceAt H p) : OddB H' v := by
  refine ⟨h.1.bx b d, fun a xs e z => ?_⟩
  subst e
  cases h.1 with
  | @tup _ ys k =>
    have k' := b.at_ d k (fun _ _ _ => (nomatch ·)) (fun _ => (nomatch ·)) fun _ => (nomatch ·)
    rw [z] at k'
    cases k'
    obtain ⟨few, rs, r, f⟩ := h.2 a xs rfl k
    exact ⟨few, rs, r.bx b d, f⟩
  | lst k n =>
    have k' := b.at_ d k (fun x y z e => n x y z (HO.lst.inj e)) (fun _ => (nomatch ·)) fun _ => (nomatch ·)
    rw [z] at k'
    cases k'
  | dic k =>
    have k' := b.at_ d k (fun _ _ _ => (nomatch ·)) (fun _ => (nomatch ·)) fun _ => (nomatch ·)
    rw [z] at k'
    cases k'
theorem RowsO.rows {K : Frag} {H : Hp} : ∀ {xs : List V} {rs : List (Option (List V))}, RowsO H xs rs → Rows K H xs rs
  | [], [], _ => trivial
  | _ :: _, _ :: _, ⟨⟨t, e, h⟩, r⟩ => by
    refine ⟨?_, r.rows⟩
    rcases h with ⟨ys, h1, h2, h3, rfl⟩ | ⟨ys, h1, _, rfl⟩
    · exact ⟨t, e, SqT.of h1, h2, h3⟩
    · exact .inr (.inr (.inr (.inr ⟨t, ys, e, h1⟩)))
  | [], _ :: _, h => h.elim
  | _ :: _, [], h => h.elim
theorem OddB.bad {K : Frag} {H : Hp} {v : V} (h : OddB H v) : BadTab K H v 1 := by
  cases h.1 with
  | non => exact .inl .non
  | int i => exact .inl (.int i)
  | bl b => exact .inl (.bl b)
  | str x => exact .inl (.str x)
  | @tup a xs k =>
    obtain ⟨few, rs, r, f⟩ := h.2 a xs rfl k
    exact .inr ⟨a, xs, rs, rfl, k, SqT.of k, few, r.rows, f⟩
  | lst k n => exact .inl (.lst k)
  | dic k => exact .inl (.dic k)
theorem ob_tup {H : Hp} {a : Addr} {xs : List V} {rs : List (Option (List V))} (e : H a = some (.tup xs)) (few : xs.length ≤ 100) (r : RowsO H xs rs) (f : tabB rs 1 6 = false) : OddB H (.ref a) := ⟨.tup e, fun b ys z y => by cases z; rw [e] at y; cases y; exact ⟨few, rs, r, f⟩⟩
theorem ob_lst {H : Hp} {a : Addr} {xs : List V} (e : H a = some (.lst xs)) (n : ∀ x y z : Int, xs ≠ [.int x, .int y, .int z]) : OddB H (.ref a) := ⟨.lst e n, fun b ys z y => by cases z; rw [e] at y; cases y⟩
theorem ob_dic {H : Hp} {a : Addr} {xs : List (Key × V)} (e : H a = some (.dK xs)) : OddB H (.ref a) := ⟨.dic e, fun b ys z y => by cases z; rw [e] at y; cases y⟩
theorem let_a : Let [97] := ⟨by intro c hc; rw [List.mem_singleton.mp hc]; decide, List.pairwise_singleton _ _, by decide, by decide⟩
section
variable {P : Program} {w : World} {K : Frag} {mg : Str → Option Value} {base : Heap} {c : ErrC} {C CB : Addr} {mc : Value} {p : Addr}
theorem tell_RT3 (Lb : Lib P w K mg base c C CB mc) {H' : Hp} {vB : V} (hD : DiceAt H' p) (oB : OddB H' vB) : LamTell P w K mg base c p ["_law_bad"] [vB] H' qRt (callLam (nthS sRt 3)) "box" := by
  refine lam_tell (fr := ["_law_bad"]) (vals := [vB]) [0] (nscope_by (by decide +kernel)) (by decide +kernel) rfl rfl (fun _ _ _ _ _ => rfl) (fun cl c' f A outer s H E hr b e => ?_)
  obtain ⟨fI, dI, MI, GI, bI⟩ := id Lb.init
  refine ⟨_, pe_make (E := E) MI GI hr rfl Lb.gB bI .nil (passes_call (takes_of rfl rfl rfl rfl) (fun _ _ _ _ h => h)) (pa_cons pe_str (pa_cons (pv 0) pa_nil)), fun Q => ?_⟩
  refine ⟨_, rfl, fun x dx hx hdx ne => ?_⟩
  have s1 : Same H (upd (upd H dx (.own x)) x (.ins CB dx [])) := fun b o z => by rw [upd_ne (ne_of_none z hx), upd_ne (ne_of_none z hdx)]; exact z
  exact ⟨x, dx, .str "ba", vB, rfl, upd_same, .inl ⟨.inl ⟨"ba", rfl, by decide +kernel, by decide +kernel⟩, fun H2 s2 => e _ _ _ (s1.trans s2) .b⟩⟩
theorem tell_RT4 (Lb : Lib P w K mg base c C CB mc) {H' : Hp} {vB : V} (hD : DiceAt H' p) (oB : OddB H' vB) : LamTell P w K mg base c p ["_law_bad"] [vB] H' qRt (callLam (nthS sRt 4)) "box" := by
  refine lam_tell (fr := ["_law_bad"]) (vals := [vB]) [0] (nscope_by (by decide +kernel)) (by decide +kernel) rfl rfl (fun _ _ _ _ _ => rfl) (fun cl c' f A outer s H E hr b e => ?_)
  obtain ⟨fI, dI, MI, GI, bI⟩ := id Lb.init
  refine ⟨_, pe_make (E := E) MI GI hr rfl Lb.gB bI .nil (passes_call (takes_of rfl rfl rfl rfl) (fun _ _ _ _ h => h)) (pa_cons pe_str (pa_cons (pv 0) pa_nil)), fun Q => ?_⟩
  refine ⟨_, rfl, fun x dx hx hdx ne => ?_⟩
  have s1 : Same H (upd (upd H dx (.own x)) x (.ins CB dx [])) := fun b o z => by rw [upd_ne (ne_of_none z hx), upd_ne (ne_of_none z hdx)]; exact z
  exact ⟨x, dx, .str "a", vB, rfl, upd_same, .inr ⟨[97], rfl, let_a, (oB.bx (b.same s1) hD).bad, fun H2 s2 => e _ _ _ (s1.trans s2) .b⟩⟩
end
end WK
set_option Elab.async false
set_option linter.all false
set_option maxRecDepth 100000
set_option maxHeartbeats 8000000
namespace WK
open PySem L2 PyProof.Rows LCX K1 FV LamX NdefX RM
open TX (sg sigs)
open PySem.W (Frag kitOne)
/-- the module has such a def, which holds where nothing is being written out -/
def HasG (P : Program) (w : World) (K : Frag) (mg : Str → Option Value) (base : Heap) (k : Nat) (nm : Str) (ps : List Str) (sp : Sp) : Prop := ∃ f fd, mg nm = some (.ref f) ∧ PySem.W.keepIn K (.ref f) = true ∧ L2.Binds K fd ps [] ∧ WG.FnG P w K mg base k f fd ps sp
theorem pe_hasG {X : Cx} {k : Nat} {nm : Str} {ps : List Str} {sp : Sp} {E : XK} {e : Expr} {es : List Expr} {t : TA} {p pos : Pos} (h : HasG X.prog X.w X.K X.mg X.base k nm ps sp) (hr : Room k X.A) (hgd : X.A.guards = some []) (ha : PA X (e :: es) t) (hg : Gl X nm := by rfl)
    (hdb : (nm == ("__debug__" : Str)) = false := by decide) (he : starEach (e :: es) X.env = (false, eval e X.env) :: starEach es X.env := by rfl) (hpl : (backTo pos (starEach es X.env)).any (·.1) = false := by rfl) : PE X (.Call (.Name nm p) (e :: es) [] pos) (tCall sp [] E t) := by
  obtain ⟨f, fd, g, kp, b, G⟩ := h
  exact WG.pe_callG G hr hgd g kp b ha hg hdb he hpl
abbrev NRt : List Str := ["_law_dice_here", "_law_letters", "_law_table_here", "_law_bad", "_law_calls", "_law_call", "_law_due"]
theorem scRt : FnScope NRt ["_law_dice_here"] (defScope sRt) := ⟨rfl, rfl, rfl, by decide +kernel, rfl, by decide +kernel, by decide +kernel⟩
def spRt (T : List (Addr × Str)) : Sp := fun vs H Q _ => ∃ p, vs = [.ref p] ∧ DiceAt H p ∧ Tabs T H ∧ ∀ H', ButT p H H' → Tabs T H' → Q (.bl true) H'
theorem ptab_bt {p : Addr} {H H' : Hp} {l : Addr} {tb : List (List Int)} (h : PTab H l tb) (b : ButT p H H') (d : DiceAt H p) : PTab H' l tb := by
  obtain ⟨as, h1, h2⟩ := h
  exact ⟨as, b.bx.at_ d h1 refs_no (fun _ => (nomatch ·)) fun _ => (nomatch ·), h2.to fun a _ r e => b.bx.at_ d e (fun _ _ _ => (nomatch ·)) (fun _ => (nomatch ·)) fun _ => (nomatch ·)⟩
theorem its_bt {q : Str} {cl0 : List (Str × Addr)} {p : Addr} {H H' : Hp} {vs : List V} {ls : List (Expr × Str)} (h : Its q cl0 H vs ls) (b : ButT p H H') (d : DiceAt H p) : Its q cl0 H' vs ls := h.to fun c o e n1 n2 => b c o e (fun z => by
  obtain ⟨_, _, _, y, _⟩ := d
  rw [← z, e] at y
  exact n2 _ (Option.some.inj y)) n1
theorem its_no {q : Str} {cl0 : List (Str × Addr)} {H : Hp} {x y : Expr × Str} {vs : List V} (h : Its q cl0 H vs [x, y]) (a b c : Int) : HO.lst vs ≠ .lst [.int a, .int b, .int c] := fun e => by
  have := h.len
  rw [HO.lst.inj e] at this
  cases this
/-- the words that were due, as far as they were met -/
def DuesOf (H : Hp) (vs : List V) (acc : List Str) : Prop := ∀ (j : Nat) (d : Str), acc[j]? = some d → ∃ t f, vs[j]? = some (.ref t) ∧ H t = some (.tup [.ref f, .str d])
theorem DuesOf.snoc {H : Hp} {vs : List V} {acc : List Str} {d : Str} {t f : Addr} (h : DuesOf H vs acc) (e : vs[acc.length]? = some (.ref t)) (k : H t = some (.tup [.ref f, .str d])) : DuesOf H vs (acc ++ [d]) := fun j x hx => by
  by_cases z : j < acc.length
  · rw [List.getElem?_append_left z] at hx
    exact h j x hx
  · have le : acc.length ≤ j := Nat.not_lt.mp z
    rw [List.getElem?_append_right le] at hx
    have hj : j - acc.length = 0 := by
      rcases Nat.eq_zero_or_pos (j - acc.length) with y | y
      · exact y
      · rw [List.getElem?_eq_none (by show 1 ≤ _; omega)] at hx
        cases hx
    rw [hj] at hx
    obtain rfl : d = x := Option.some.inj hx
    have : j = acc.length := by omega
    exact ⟨t, f, by rw [this]; exact e, k⟩
theorem dues_one {H : Hp} {vs : List V} {a b : List Str} (ha : DuesOf H vs a) (hb : DuesOf H vs b) (la : a.length = vs.length) (lb : b.length = vs.length) : a = b := by
  refine List.ext_getElem? fun j => ?_
  by_cases z : j < vs.length
  · have h1 : a[j]? = some (a[j]'(by omega)) := List.getElem?_eq_getElem _
    have h2 : b[j]? = some (b[j]'(by omega)) := List.getElem?_eq_getElem _
    obtain ⟨t, f, e1, e2⟩ := ha j _ h1
    obtain ⟨t', f', e3, e4⟩ := hb j _ h2
    rw [e1] at e3
    cases e3
    rw [e2] at e4
    have e5 := HO.tup.inj (Option.some.inj e4)
    rw [h1, h2]
    exact congrArg some (V.str.inj (List.cons.inj (List.cons.inj e5).2).1)
  · rw [List.getElem?_eq_none (by omega), List.getElem?_eq_none (by omega)]
theorem on_tup {cs : Cs} {H : Hp} {t : Addr} {xs : List V} (nd : (cs.map (·.1)).Nodup) (h : onn cs H t = some (.tup xs)) : H t = some (.tup xs) := by
  by_cases z : t ∈ cs.map (·.1)
  · obtain ⟨r, hr, rfl⟩ := List.mem_map.mp z
    rw [onn_lay nd r hr] at h
    cases h
  · rw [onn_out z] at h
    exact h
theorem seven (m : Addr) : (List.replicate (7 : Int).toNat [V.ref m]).flatten = [.ref m, .ref m, .ref m, .ref m, .ref m, .ref m, .ref m] := rfl
section
variable {P : Program} {w : World} {K : Frag} {mg : Str → Option Value} {base : Heap} {c : ErrC} {C CB fO fX cM PM : Addr} {dO dX : FuncData} {mc : Value} {T : List (Addr × Str)}
theorem ok_rt {f : Addr} {oc kV doc pm ct : Value} {an od : Option Addr} {osl : Array (Option Value)} (lk : K.lookup f = some ⟨oc, od, .func (PySem.W.fnOf "_law_right" "_law_right" (defArgs sRt) (defBody sRt) (defScope sRt) .none kV doc pm an (.ref cM) ct), osl⟩) (hcd : PySem.W.codeIn K (.ref cM) "_law_right" = true)
    (Lb : Lib P w K mg base c C CB mc) (TB : TabB base mg cM PM) (mem : (PM, qRt) ∈ T) (uniq : ∀ p ∈ T, p.1 = PM → p.2 = qRt) (AO : Fn K mg "_law_one_of" sOne ["_law_dice_here", "_law_items"] fO dO) (GO : FnOk P w K mg base CX0 2 fO dO ["_law_dice_here", "_law_items"] spOne)
    (AX : Fn K mg "_law_box" sLBox ["_law_dice_here", "_law_letters", "_law_most"] fX dX) (GX : FnOk P w K mg base CX0 4 fX dX ["_law_dice_here", "_law_letters", "_law_most"] spLBox)
    (HM : HasG P w K mg base 4 "_law_made_calls" ["_law_dice_here"] (spMC P w K mg base c T)) (HB : HasG P w K mg base 8 "_law_box_calls" ["_law_dice_here", "_law_letters", "_law_table_here"] (spBC P w K mg base c T)) (HS : HasG P w K mg base 8 "_law_sight_calls" ["_law_dice_here", "_law_letters", "_law_table_here"] (spBC P w K mg base c T))
    (HT : HasG P w K mg base 11 "_law_met" ["_law_call"] (spMet P w K mg base c 7)) :
    WG.FnG P w K mg base 12 f (PySem.W.fnOf "_law_right" "_law_right" (defArgs sRt) (defBody sRt) (defScope sRt) .none kV doc pm an (.ref cM) ct) ["_law_dice_here"] (spRt T) := by
  refine okGx (N := NRt) lk hcd scRt (fun vs H Q E h => ?_) (fun A outer s H vs Q E hr hg h => ?_)
  · obtain ⟨p, rfl, _⟩ := h
    rfl
  · obtain ⟨p, rfl, hD, hT, q⟩ := h
    have hr2 : Room 2 _ := hr.mono (by decide)
    have hr4 : Room 4 _ := hr.mono (by decide)
    have hr8 : Room 8 _ := hr.mono (by decide)
    have hu : (A.deeper (envOfC "_law_right" (defScope sRt) s.heap.objs.size f (.ref cM))).units + 64 < cLine := by
      have := hr.un
      omega
    have z0 : PS (cxOf CX0 P w K mg base NRt "_law_right" (defScope sRt) f (.ref cM) A outer s H E).nox (nthS sRt 0) _ := (ps_set (i := 1) scRt.nd rfl (Or.inl rfl) (pe_call GO hr2 rfl AO.g AO.F.kp AO.b .nil pass0 (pa_cons (pv 0) (pa_cons (pe_lst (pa_cons pe_str (pa_cons pe_str (pa_cons pe_str pa_nil)))) pa_nil))))
    have z1 : PS (cxOf CX0 P w K mg base NRt "_law_right" (defScope sRt) f (.ref cM) A outer s H E).nox (nthS sRt 1) _ := (ps_set (i := 2) scRt.nd rfl (Or.inl rfl) (pe_call GX hr4 rfl AX.g AX.F.kp AX.b .nil pass0 (pa_cons (pv 0) (pa_cons (pv 1) (pa_cons pe_int pa_nil)))))
    have z2 : PS (cxOf CX0 P w K mg base NRt "_law_right" (defScope sRt) f (.ref cM) A outer s H E).nox (nthS sRt 2) _ := (ps_set (i := 3) scRt.nd rfl (Or.inr rfl) (pe_call GO hr2 rfl AO.g AO.F.kp AO.b .nil pass0 (pa_cons (pv 0) (pa_cons (pe_lst (pa_cons pe_non (pa_cons pe_int (pa_cons (pe_tup pa_nil) (pa_cons (pe_lst (pa_cons (pe_tup (pa_cons pe_int pa_nil)) pa_nil)) (pa_cons (pe_tup (pa_cons (pe_tup (pa_cons pe_int pa_nil)) pa_nil)) (pa_cons (pe_tup (pa_cons (pe_tup (pa_cons pe_int (pa_cons pe_int pa_nil))) pa_nil)) (pa_cons (pe_tup (pa_cons (pe_tup (pa_cons pe_bl pa_nil)) pa_nil)) (pa_cons (pe_op op_repT (pe_tup (pa_cons (pe_tup (pa_cons pe_int pa_nil)) pa_nil)) pe_int) (pa_cons pe_str (pa_cons pe_dnewK (pa_cons (pe_tup (pa_cons (pe_lst (pa_cons pe_int pa_nil)) pa_nil)) pa_nil)))))))))))) pa_nil))))
    have z3 : PS (cxOf CX0 P w K mg base NRt "_law_right" (defScope sRt) f (.ref cM) A outer s H E).nox (nthS sRt 3) _ := (ps_first (st := nthS sRt 3) (T := T) (i := 4) rfl TB rfl mem uniq rfl (fun ok y hy e => ok.has _ (.inl ((by decide +kernel : ∀ y ∈ (lamSc (callLam (nthS sRt 3))).names, y.2 = .free → (defScope sRt).names.lookup y.1 = some .cell) y hy e))) (fun hL => ps_set (i := 4) scRt.nd rfl (Or.inl rfl) (pe_lst (pa_cons (pe_tup (pa_cons hL (pa_cons pe_str pa_nil))) pa_nil))))
    have z4 : PS (cxOf CX0 P w K mg base NRt "_law_right" (defScope sRt) f (.ref cM) A outer s H E).nox (nthS sRt 4) _ := (ps_app (st := nthS sRt 4) (T := T) (i := 4) rfl TB rfl mem uniq rfl (fun ok y hy e => ok.has _ (.inl ((by decide +kernel : ∀ y ∈ (lamSc (callLam (nthS sRt 4))).names, y.2 = .free → (defScope sRt).names.lookup y.1 = some .cell) y hy e))) (fun hL => pe_bm PySem.F.plainAttrs_list PySem.F.slot_list_append PySem.F.type_list_append mt_append (pv 4) (pa_cons (pe_tup (pa_cons hL (pa_cons pe_str pa_nil))) pa_nil)) rfl)
    have z5 : PS (cxOf CX0 P w K mg base NRt "_law_right" (defScope sRt) f (.ref cM) A outer s H E).nox (nthS sRt 5) _ := (ps_set (i := 4) scRt.nd rfl (Or.inl rfl) (pe_op op_cat (pe_op op_cat (pv 4) (pe_hasG (E := E0) HM hr4 hg (pa_cons (pv 0) pa_nil))) (pe_hasG (E := E0) HB hr8 hg (pa_cons (pv 0) (pa_cons (pv 1) (pa_cons (pv 2) pa_nil))))))
    have z6 : PS (cxOf CX0 P w K mg base NRt "_law_right" (defScope sRt) f (.ref cM) A outer s H E).nox (nthS sRt 6) _ := (ps_set (i := 4) scRt.nd rfl (Or.inl rfl) (pe_op op_cat (pv 4) (pe_hasG (E := E0) HS hr8 hg (pa_cons (pv 0) (pa_cons (pv 1) (pa_cons (pv 2) pa_nil))))))
    have z7 : PS (cxOf CX0 P w K mg base NRt "_law_right" (defScope sRt) f (.ref cM) A outer s H E).nox (nthS sRt 7) _ := (ps_ret (pe_cmpR (op_eqD hu) (pe_lcK (own := [("_law_call", 5), ("_law_due", 6)]) (g := gTup K 2 (gCons (gName 5) (gCons (gName 6) gNil))) (te := tCall (spMet P w K mg base c 7) [] E0 (tCons (tVar 5) tNil)) (cl := (envOfC "_law_right" (defScope sRt) s.heap.objs.size f (.ref cM)).cells) (fr := ["_law_bad"]) (js := [3]) rfl scRt.nd (pi_list (pv 4)) (blkOk_by (own := [("_law_call", 5), ("_law_due", 6)]) (N := NRt) (sc := defScope sRt) (by decide +kernel)) (by decide +kernel) (fun _ => rfl)
        (fun _ => ⟨fun _ _ e => e, fun y hy => .inl ((by decide +kernel : ∀ y ∈ (["_law_bad"] : List Str), (defScope sRt).names.lookup y = some .cell) y hy), fun _ _ _ e => e, rfl⟩) (cells_only (by decide +kernel)) (by decide) (fun _ _ => rfl) (fun _ _ _ _ _ => pg_tup (by rfl) (pgs_cons (pg_name (i := 5) scRt.nd rfl (Or.inl rfl)) (pgs_cons (pg_name (i := 6) scRt.nd rfl (Or.inl rfl)) pgs_nil))) (fun _ _ _ _ _ => pe_hasG HT hr hg (pa_cons (pv 5) pa_nil))) (pe_lc (own := [("_law_call", 5), ("_law_due", 6)]) (g := gTup K 2 (gCons (gName 5) (gCons (gName 6) gNil))) (tt := tYes) (te := tVar 6) rfl scRt.nd (pi_list (pv 4)) (blkOk_by (own := [("_law_call", 5), ("_law_due", 6)]) (N := NRt) (sc := defScope sRt) (by decide +kernel)) (fun _ _ _ _ _ => pg_tup (by rfl) (pgs_cons (pg_name (i := 5) scRt.nd rfl (Or.inl rfl)) (pgs_cons (pg_name (i := 6) scRt.nd rfl (Or.inl rfl)) pgs_nil))) (fun _ _ _ _ _ => pts_nil) (fun _ _ _ _ _ => pv 6)) (nomark _)))
    refine ⟨_, pss_cons z0 (pss_cons z1 (pss_cons z2 (pss_cons z3 (pss_cons z4 (pss_cons z5 (pss_cons z6 (pss_one z7))))))), ?_⟩
    clear z0 z1 z2 z3 z4 z5 z6 z7
    -- the letters
    refine ⟨_, rfl, by rw [sizeLine_eq]; simp only [List.length_cons, List.length_nil]; omega, fun a ha => ?_⟩
    refine ⟨p, a, _, rfl, hD.new ha, hD.ne ha, upd_same, by simp only [List.length_cons, List.length_nil]; omega, by simp only [List.length_cons, List.length_nil]; omega, fun vL H1 hv1 d1 b1 => ?_⟩
    have bt1 : ButT p H H1 := ButT.ofBut ((But.ofSame (same_upd ha)).trans b1)
    have T1 : Tabs T H1 := tabs_but (hT.ext (same_upd ha)) (hD.new ha) b1
    obtain ⟨L, rfl, hL, fL⟩ : ∃ L, vL = .str (tx L) ∧ Let L ∧ ovrB L [122] = false := by
      simp only [List.mem_cons, List.not_mem_nil, or_false] at hv1
      rcases hv1 with rfl | rfl | rfl
      · exact ⟨[97], rfl, let_a, by decide +kernel⟩
      · exact ⟨[97, 98], rfl, let_ab, by decide +kernel⟩
      · exact ⟨[97, 98, 99], rfl, ⟨by intro c hc; simp only [List.mem_cons, List.not_mem_nil, or_false] at hc; rcases hc with rfl | rfl | rfl <;> decide, by decide, by decide, by decide⟩, by decide +kernel⟩
    clear hv1 b1
    -- the table
    refine ⟨_, rfl, _, rfl, p, L, 4, rfl, d1, hL.ne, by have := hL.few; omega, by decide, by decide, fun tl tb n H2 nl np d2 b2 pt ok n1 n4 => ?_⟩
    have bt2 : ButT p H1 H2 := ButT.ofBut b2
    have T2 : Tabs T H2 := tabs_but T1 d1 b2
    clear b2 nl
    refine ⟨_, rfl, by rw [sizeLine_eq]; simp only [List.length_cons, List.length_nil]; omega, fun t1 ht1 => ⟨by rw [sizeLine_eq]; simp only [List.length_cons, List.length_nil]; omega, fun u1 hu1 => ⟨by rw [sizeLine_eq]; simp only [List.length_cons, List.length_nil]; omega, fun l1 hl1 => ⟨by rw [sizeLine_eq]; simp only [List.length_cons, List.length_nil]; omega, fun u2 hu2 => ⟨by rw [sizeLine_eq]; simp only [List.length_cons, List.length_nil]; omega, fun t2 ht2 => ⟨by rw [sizeLine_eq]; simp only [List.length_cons, List.length_nil]; omega, fun u3 hu3 => ⟨by rw [sizeLine_eq]; simp only [List.length_cons, List.length_nil]; omega, fun t3 ht3 => ⟨by rw [sizeLine_eq]; simp only [List.length_cons, List.length_nil]; omega, fun u4 hu4 => ⟨by rw [sizeLine_eq]; simp only [List.length_cons, List.length_nil]; omega, fun t4 ht4 => ⟨by rw [sizeLine_eq]; simp only [List.length_cons, List.length_nil]; omega, fun u5 hu5 => ⟨by rw [sizeLine_eq]; simp only [List.length_cons, List.length_nil]; omega, fun x5 hx5 => ⟨x5, 7, [.ref u5], rfl, rfl, SqT.of upd_same, List.cons_ne_nil _ _, by decide, by decide, (by show 1 ≤ 1000; decide), fun t5 ht5 => fun q6 hq6 => ⟨by rw [sizeLine_eq]; simp only [List.length_cons, List.length_nil]; omega, fun l7 hl7 => ⟨by rw [sizeLine_eq]; simp only [List.length_cons, List.length_nil]; omega, fun t7 ht7 => ⟨by rw [sizeLine_eq]; simp only [List.length_cons, List.length_nil]; omega, fun a3 ha3 => ?_⟩⟩⟩⟩⟩⟩⟩⟩⟩⟩⟩⟩⟩⟩⟩
    have s0_3 := same_upd (o := .tup []) ht1
    have s1_3 := same_two s0_3 (o := .tup [.int 0]) hu1
    have s2_3 := same_two s1_3 (o := .lst [.ref u1]) hl1
    have s3_3 := same_two s2_3 (o := .tup [.int 1]) hu2
    have s4_3 := same_two s3_3 (o := .tup [.ref u2]) ht2
    have s5_3 := same_two s4_3 (o := .tup [.int 0, .int 0]) hu3
    have s6_3 := same_two s5_3 (o := .tup [.ref u3]) ht3
    have s7_3 := same_two s6_3 (o := .tup [.bl true]) hu4
    have s8_3 := same_two s7_3 (o := .tup [.ref u4]) ht4
    have s9_3 := same_two s8_3 (o := .tup [.int 0]) hu5
    have s10_3 := same_two s9_3 (o := .tup [.ref u5]) hx5
    have s11_3 := same_two s10_3 (o := .tup (List.replicate (7 : Int).toNat [V.ref u5]).flatten) ht5
    have s12_3 := same_two s11_3 (o := .dK []) hq6
    have s13_3 := same_two s12_3 (o := .lst [.int 0]) hl7
    have s14_3 := same_two s13_3 (o := .tup [.ref l7]) ht7
    have e_t1 := (same_upd ht7 (o := .tup [.ref l7]) _ _ (same_upd hl7 (o := .lst [.int 0]) _ _ (same_upd hq6 (o := .dK []) _ _ (same_upd ht5 (o := .tup (List.replicate (7 : Int).toNat [V.ref u5]).flatten) _ _ (same_upd hx5 (o := .tup [.ref u5]) _ _ (same_upd hu5 (o := .tup [.int 0]) _ _ (same_upd ht4 (o := .tup [.ref u4]) _ _ (same_upd hu4 (o := .tup [.bl true]) _ _ (same_upd ht3 (o := .tup [.ref u3]) _ _ (same_upd hu3 (o := .tup [.int 0, .int 0]) _ _ (same_upd ht2 (o := .tup [.ref u2]) _ _ (same_upd hu2 (o := .tup [.int 1]) _ _ (same_upd hl1 (o := .lst [.ref u1]) _ _ (same_upd hu1 (o := .tup [.int 0]) _ _ (upd_same (H := H2) (a := t1) (o := .tup []))))))))))))))))
    have e_u1 := (same_upd ht7 (o := .tup [.ref l7]) _ _ (same_upd hl7 (o := .lst [.int 0]) _ _ (same_upd hq6 (o := .dK []) _ _ (same_upd ht5 (o := .tup (List.replicate (7 : Int).toNat [V.ref u5]).flatten) _ _ (same_upd hx5 (o := .tup [.ref u5]) _ _ (same_upd hu5 (o := .tup [.int 0]) _ _ (same_upd ht4 (o := .tup [.ref u4]) _ _ (same_upd hu4 (o := .tup [.bl true]) _ _ (same_upd ht3 (o := .tup [.ref u3]) _ _ (same_upd hu3 (o := .tup [.int 0, .int 0]) _ _ (same_upd ht2 (o := .tup [.ref u2]) _ _ (same_upd hu2 (o := .tup [.int 1]) _ _ (same_upd hl1 (o := .lst [.ref u1]) _ _ (upd_same (H := (upd H2 t1 (.tup []))) (a := u1) (o := .tup [.int 0])))))))))))))))
    have e_l1 := (same_upd ht7 (o := .tup [.ref l7]) _ _ (same_upd hl7 (o := .lst [.int 0]) _ _ (same_upd hq6 (o := .dK []) _ _ (same_upd ht5 (o := .tup (List.replicate (7 : Int).toNat [V.ref u5]).flatten) _ _ (same_upd hx5 (o := .tup [.ref u5]) _ _ (same_upd hu5 (o := .tup [.int 0]) _ _ (same_upd ht4 (o := .tup [.ref u4]) _ _ (same_upd hu4 (o := .tup [.bl true]) _ _ (same_upd ht3 (o := .tup [.ref u3]) _ _ (same_upd hu3 (o := .tup [.int 0, .int 0]) _ _ (same_upd ht2 (o := .tup [.ref u2]) _ _ (same_upd hu2 (o := .tup [.int 1]) _ _ (upd_same (H := (upd (upd H2 t1 (.tup [])) u1 (.tup [.int 0]))) (a := l1) (o := .lst [.ref u1]))))))))))))))
    have e_u2 := (same_upd ht7 (o := .tup [.ref l7]) _ _ (same_upd hl7 (o := .lst [.int 0]) _ _ (same_upd hq6 (o := .dK []) _ _ (same_upd ht5 (o := .tup (List.replicate (7 : Int).toNat [V.ref u5]).flatten) _ _ (same_upd hx5 (o := .tup [.ref u5]) _ _ (same_upd hu5 (o := .tup [.int 0]) _ _ (same_upd ht4 (o := .tup [.ref u4]) _ _ (same_upd hu4 (o := .tup [.bl true]) _ _ (same_upd ht3 (o := .tup [.ref u3]) _ _ (same_upd hu3 (o := .tup [.int 0, .int 0]) _ _ (same_upd ht2 (o := .tup [.ref u2]) _ _ (upd_same (H := (upd (upd (upd H2 t1 (.tup [])) u1 (.tup [.int 0])) l1 (.lst [.ref u1]))) (a := u2) (o := .tup [.int 1])))))))))))))
    have e_t2 := (same_upd ht7 (o := .tup [.ref l7]) _ _ (same_upd hl7 (o := .lst [.int 0]) _ _ (same_upd hq6 (o := .dK []) _ _ (same_upd ht5 (o := .tup (List.replicate (7 : Int).toNat [V.ref u5]).flatten) _ _ (same_upd hx5 (o := .tup [.ref u5]) _ _ (same_upd hu5 (o := .tup [.int 0]) _ _ (same_upd ht4 (o := .tup [.ref u4]) _ _ (same_upd hu4 (o := .tup [.bl true]) _ _ (same_upd ht3 (o := .tup [.ref u3]) _ _ (same_upd hu3 (o := .tup [.int 0, .int 0]) _ _ (upd_same (H := (upd (upd (upd (upd H2 t1 (.tup [])) u1 (.tup [.int 0])) l1 (.lst [.ref u1])) u2 (.tup [.int 1]))) (a := t2) (o := .tup [.ref u2]))))))))))))
    have e_u3 := (same_upd ht7 (o := .tup [.ref l7]) _ _ (same_upd hl7 (o := .lst [.int 0]) _ _ (same_upd hq6 (o := .dK []) _ _ (same_upd ht5 (o := .tup (List.replicate (7 : Int).toNat [V.ref u5]).flatten) _ _ (same_upd hx5 (o := .tup [.ref u5]) _ _ (same_upd hu5 (o := .tup [.int 0]) _ _ (same_upd ht4 (o := .tup [.ref u4]) _ _ (same_upd hu4 (o := .tup [.bl true]) _ _ (same_upd ht3 (o := .tup [.ref u3]) _ _ (upd_same (H := (upd (upd (upd (upd (upd H2 t1 (.tup [])) u1 (.tup [.int 0])) l1 (.lst [.ref u1])) u2 (.tup [.int 1])) t2 (.tup [.ref u2]))) (a := u3) (o := .tup [.int 0, .int 0])))))))))))
    have e_t3 := (same_upd ht7 (o := .tup [.ref l7]) _ _ (same_upd hl7 (o := .lst [.int 0]) _ _ (same_upd hq6 (o := .dK []) _ _ (same_upd ht5 (o := .tup (List.replicate (7 : Int).toNat [V.ref u5]).flatten) _ _ (same_upd hx5 (o := .tup [.ref u5]) _ _ (same_upd hu5 (o := .tup [.int 0]) _ _ (same_upd ht4 (o := .tup [.ref u4]) _ _ (same_upd hu4 (o := .tup [.bl true]) _ _ (upd_same (H := (upd (upd (upd (upd (upd (upd H2 t1 (.tup [])) u1 (.tup [.int 0])) l1 (.lst [.ref u1])) u2 (.tup [.int 1])) t2 (.tup [.ref u2])) u3 (.tup [.int 0, .int 0]))) (a := t3) (o := .tup [.ref u3]))))))))))
    have e_u4 := (same_upd ht7 (o := .tup [.ref l7]) _ _ (same_upd hl7 (o := .lst [.int 0]) _ _ (same_upd hq6 (o := .dK []) _ _ (same_upd ht5 (o := .tup (List.replicate (7 : Int).toNat [V.ref u5]).flatten) _ _ (same_upd hx5 (o := .tup [.ref u5]) _ _ (same_upd hu5 (o := .tup [.int 0]) _ _ (same_upd ht4 (o := .tup [.ref u4]) _ _ (upd_same (H := (upd (upd (upd (upd (upd (upd (upd H2 t1 (.tup [])) u1 (.tup [.int 0])) l1 (.lst [.ref u1])) u2 (.tup [.int 1])) t2 (.tup [.ref u2])) u3 (.tup [.int 0, .int 0])) t3 (.tup [.ref u3]))) (a := u4) (o := .tup [.bl true])))))))))
    have e_t4 := (same_upd ht7 (o := .tup [.ref l7]) _ _ (same_upd hl7 (o := .lst [.int 0]) _ _ (same_upd hq6 (o := .dK []) _ _ (same_upd ht5 (o := .tup (List.replicate (7 : Int).toNat [V.ref u5]).flatten) _ _ (same_upd hx5 (o := .tup [.ref u5]) _ _ (same_upd hu5 (o := .tup [.int 0]) _ _ (upd_same (H := (upd (upd (upd (upd (upd (upd (upd (upd H2 t1 (.tup [])) u1 (.tup [.int 0])) l1 (.lst [.ref u1])) u2 (.tup [.int 1])) t2 (.tup [.ref u2])) u3 (.tup [.int 0, .int 0])) t3 (.tup [.ref u3])) u4 (.tup [.bl true]))) (a := t4) (o := .tup [.ref u4]))))))))
    have e_u5 := (same_upd ht7 (o := .tup [.ref l7]) _ _ (same_upd hl7 (o := .lst [.int 0]) _ _ (same_upd hq6 (o := .dK []) _ _ (same_upd ht5 (o := .tup (List.replicate (7 : Int).toNat [V.ref u5]).flatten) _ _ (same_upd hx5 (o := .tup [.ref u5]) _ _ (upd_same (H := (upd (upd (upd (upd (upd (upd (upd (upd (upd H2 t1 (.tup [])) u1 (.tup [.int 0])) l1 (.lst [.ref u1])) u2 (.tup [.int 1])) t2 (.tup [.ref u2])) u3 (.tup [.int 0, .int 0])) t3 (.tup [.ref u3])) u4 (.tup [.bl true])) t4 (.tup [.ref u4]))) (a := u5) (o := .tup [.int 0])))))))
    have e_x5 := (same_upd ht7 (o := .tup [.ref l7]) _ _ (same_upd hl7 (o := .lst [.int 0]) _ _ (same_upd hq6 (o := .dK []) _ _ (same_upd ht5 (o := .tup (List.replicate (7 : Int).toNat [V.ref u5]).flatten) _ _ (upd_same (H := (upd (upd (upd (upd (upd (upd (upd (upd (upd (upd H2 t1 (.tup [])) u1 (.tup [.int 0])) l1 (.lst [.ref u1])) u2 (.tup [.int 1])) t2 (.tup [.ref u2])) u3 (.tup [.int 0, .int 0])) t3 (.tup [.ref u3])) u4 (.tup [.bl true])) t4 (.tup [.ref u4])) u5 (.tup [.int 0]))) (a := x5) (o := .tup [.ref u5]))))))
    have e_t5 := (same_upd ht7 (o := .tup [.ref l7]) _ _ (same_upd hl7 (o := .lst [.int 0]) _ _ (same_upd hq6 (o := .dK []) _ _ (upd_same (H := (upd (upd (upd (upd (upd (upd (upd (upd (upd (upd (upd H2 t1 (.tup [])) u1 (.tup [.int 0])) l1 (.lst [.ref u1])) u2 (.tup [.int 1])) t2 (.tup [.ref u2])) u3 (.tup [.int 0, .int 0])) t3 (.tup [.ref u3])) u4 (.tup [.bl true])) t4 (.tup [.ref u4])) u5 (.tup [.int 0])) x5 (.tup [.ref u5]))) (a := t5) (o := .tup (List.replicate (7 : Int).toNat [V.ref u5]).flatten)))))
    have e_q6 := (same_upd ht7 (o := .tup [.ref l7]) _ _ (same_upd hl7 (o := .lst [.int 0]) _ _ (upd_same (H := (upd (upd (upd (upd (upd (upd (upd (upd (upd (upd (upd (upd H2 t1 (.tup [])) u1 (.tup [.int 0])) l1 (.lst [.ref u1])) u2 (.tup [.int 1])) t2 (.tup [.ref u2])) u3 (.tup [.int 0, .int 0])) t3 (.tup [.ref u3])) u4 (.tup [.bl true])) t4 (.tup [.ref u4])) u5 (.tup [.int 0])) x5 (.tup [.ref u5])) t5 (.tup (List.replicate (7 : Int).toNat [V.ref u5]).flatten))) (a := q6) (o := .dK []))))
    have e_l7 := (same_upd ht7 (o := .tup [.ref l7]) _ _ (upd_same (H := (upd (upd (upd (upd (upd (upd (upd (upd (upd (upd (upd (upd (upd H2 t1 (.tup [])) u1 (.tup [.int 0])) l1 (.lst [.ref u1])) u2 (.tup [.int 1])) t2 (.tup [.ref u2])) u3 (.tup [.int 0, .int 0])) t3 (.tup [.ref u3])) u4 (.tup [.bl true])) t4 (.tup [.ref u4])) u5 (.tup [.int 0])) x5 (.tup [.ref u5])) t5 (.tup (List.replicate (7 : Int).toNat [V.ref u5]).flatten)) q6 (.dK []))) (a := l7) (o := .lst [.int 0])))
    have e_t7 := (upd_same (H := (upd (upd (upd (upd (upd (upd (upd (upd (upd (upd (upd (upd (upd (upd H2 t1 (.tup [])) u1 (.tup [.int 0])) l1 (.lst [.ref u1])) u2 (.tup [.int 1])) t2 (.tup [.ref u2])) u3 (.tup [.int 0, .int 0])) t3 (.tup [.ref u3])) u4 (.tup [.bl true])) t4 (.tup [.ref u4])) u5 (.tup [.int 0])) x5 (.tup [.ref u5])) t5 (.tup (List.replicate (7 : Int).toNat [V.ref u5]).flatten)) q6 (.dK [])) l7 (.lst [.int 0]))) (a := t7) (o := .tup [.ref l7]))
    generalize (upd (upd (upd (upd (upd (upd (upd (upd (upd (upd (upd (upd (upd (upd (upd H2 t1 (.tup [])) u1 (.tup [.int 0])) l1 (.lst [.ref u1])) u2 (.tup [.int 1])) t2 (.tup [.ref u2])) u3 (.tup [.int 0, .int 0])) t3 (.tup [.ref u3])) u4 (.tup [.bl true])) t4 (.tup [.ref u4])) u5 (.tup [.int 0])) x5 (.tup [.ref u5])) t5 (.tup (List.replicate (7 : Int).toNat [V.ref u5]).flatten)) q6 (.dK [])) l7 (.lst [.int 0])) t7 (.tup [.ref l7])) = G3 at s14_3 e_t1 e_u1 e_l1 e_u2 e_t2 e_u3 e_t3 e_u4 e_t4 e_u5 e_x5 e_t5 e_q6 e_l7 e_t7 ha3 ⊢
    have g3 : DiceAt G3 p := d2.keep fun _ e => s14_3 _ _ e
    refine ⟨p, a3, _, rfl, g3.new ha3, g3.ne ha3, upd_same, by simp only [List.length_cons, List.length_nil]; omega, by simp only [List.length_cons, List.length_nil]; omega, fun vB H3 hv3 d3 b3 => ?_⟩
    have bt3 : ButT p H2 H3 := ButT.ofBut ((But.ofSame (s14_3.trans (same_upd ha3))).trans b3)
    have T3 : Tabs T H3 := tabs_but ((T2.ext s14_3).ext (same_upd ha3)) (g3.new ha3) b3
    have k_t1 := b3 _ _ (same_upd ha3 _ _ e_t1) (g3.off e_t1 fun _ _ _ => (nomatch ·))
    have k_u1 := b3 _ _ (same_upd ha3 _ _ e_u1) (g3.off e_u1 fun _ _ _ => (nomatch ·))
    have k_l1 := b3 _ _ (same_upd ha3 _ _ e_l1) (g3.off e_l1 fun _ _ _ => (nomatch ·))
    have k_u2 := b3 _ _ (same_upd ha3 _ _ e_u2) (g3.off e_u2 fun _ _ _ => (nomatch ·))
    have k_t2 := b3 _ _ (same_upd ha3 _ _ e_t2) (g3.off e_t2 fun _ _ _ => (nomatch ·))
    have k_u3 := b3 _ _ (same_upd ha3 _ _ e_u3) (g3.off e_u3 fun _ _ _ => (nomatch ·))
    have k_t3 := b3 _ _ (same_upd ha3 _ _ e_t3) (g3.off e_t3 fun _ _ _ => (nomatch ·))
    have k_u4 := b3 _ _ (same_upd ha3 _ _ e_u4) (g3.off e_u4 fun _ _ _ => (nomatch ·))
    have k_t4 := b3 _ _ (same_upd ha3 _ _ e_t4) (g3.off e_t4 fun _ _ _ => (nomatch ·))
    have k_u5 := b3 _ _ (same_upd ha3 _ _ e_u5) (g3.off e_u5 fun _ _ _ => (nomatch ·))
    have k_x5 := b3 _ _ (same_upd ha3 _ _ e_x5) (g3.off e_x5 fun _ _ _ => (nomatch ·))
    have k_t5 := b3 _ _ (same_upd ha3 _ _ e_t5) (g3.off e_t5 fun _ _ _ => (nomatch ·))
    have k_q6 := b3 _ _ (same_upd ha3 _ _ e_q6) (g3.off e_q6 fun _ _ _ => (nomatch ·))
    have k_l7 := b3 _ _ (same_upd ha3 _ _ e_l7) (g3.off e_l7 fun _ _ _ => (nomatch ·))
    have k_t7 := b3 _ _ (same_upd ha3 _ _ e_t7) (g3.off e_t7 fun _ _ _ => (nomatch ·))
    clear e_t1 e_u1 e_l1 e_u2 e_t2 e_u3 e_t3 e_u4 e_t4 e_u5 e_x5 e_t5 e_q6 e_l7 e_t7
    have oB : OddB H3 vB := by
      simp only [List.mem_cons, List.not_mem_nil, or_false] at hv3
      rcases hv3 with rfl | rfl | rfl | rfl | rfl | rfl | rfl | rfl | rfl | rfl | rfl
      · exact ⟨.non, fun _ _ => (nomatch ·)⟩
      · exact ⟨.int _, fun _ _ => (nomatch ·)⟩
      · exact ob_tup (rs := []) k_t1 (by decide) trivial (by decide)
      · exact ob_lst k_l1 fun _ _ _ => (nomatch ·)
      · exact ob_tup (rs := [some [.int 1]]) k_t2 (by show 1 ≤ 100; decide) ⟨⟨u2, rfl, .inl ⟨_, k_u2, by decide, (fun y hy => by simp only [List.mem_cons, List.not_mem_nil, or_false, or_self] at hy; rw [hy]; exact .inl ⟨_, rfl⟩), rfl⟩⟩, trivial⟩ (by decide)
      · exact ob_tup (rs := [some [.int 0, .int 0]]) k_t3 (by show 1 ≤ 100; decide) ⟨⟨u3, rfl, .inl ⟨_, k_u3, by decide, (fun y hy => by simp only [List.mem_cons, List.not_mem_nil, or_false, or_self] at hy; rw [hy]; exact .inl ⟨_, rfl⟩), rfl⟩⟩, trivial⟩ (by decide)
      · exact ob_tup (rs := [some [.bl true]]) k_t4 (by show 1 ≤ 100; decide) ⟨⟨u4, rfl, .inl ⟨_, k_u4, by decide, (fun y hy => by simp only [List.mem_cons, List.not_mem_nil, or_false, or_self] at hy; rw [hy]; exact .inr ⟨_, rfl⟩), rfl⟩⟩, trivial⟩ (by decide)
      · rw [seven] at k_t5
        have r5 : RowO H3 (.ref u5) (some [.int 0]) := ⟨u5, rfl, .inl ⟨_, k_u5, by decide, (fun y hy => by simp only [List.mem_cons, List.not_mem_nil, or_false, or_self] at hy; rw [hy]; exact .inl ⟨_, rfl⟩), rfl⟩⟩
        exact ob_tup (rs := List.replicate 7 (some [.int 0])) k_t5 (by show 7 ≤ 100; decide) ⟨r5, ⟨r5, ⟨r5, ⟨r5, ⟨r5, ⟨r5, ⟨r5, trivial⟩⟩⟩⟩⟩⟩⟩ (by decide)
      · exact ⟨.str _, fun _ _ => (nomatch ·)⟩
      · exact ob_dic k_q6
      · exact ob_tup (rs := [none]) k_t7 (by show 1 ≤ 100; decide) ⟨⟨l7, rfl, .inr ⟨_, k_l7, fun _ _ _ => (nomatch ·), rfl⟩⟩, trivial⟩ (by decide)
    have pt := ptab_bt pt bt3 d2
    clear hv3 b3 ha3 g3 k_t1 k_u1 k_l1 k_u2 k_t2 k_u3 k_t3 k_u4 k_t4 k_u5 k_x5 k_t5 k_q6 k_l7 k_t7 s14_3 s13_3 s12_3 s11_3 s10_3 s9_3 s8_3 s7_3 s6_3 s5_3 s4_3 s3_3 s2_3 s1_3 s0_3 ht7 hl7 hq6 ht5 hx5 hu5 ht4 hu4 ht3 hu3 ht2 hu2 hl1 hu1 ht1
    have bt03 : ButT p H H3 := bt1.trans (bt2.trans bt3)
    clear bt1 bt2 bt3 T1 T2 d1 d2 hT
    refine ⟨_, T3, fun _ _ _ q => q, fun a4 G1 na inv => ?_⟩
    refine app_step rfl na inv (by simp only [List.length_cons, List.length_nil]; omega) (fun _ _ _ q => q) fun G2 inv => ?_
    obtain ⟨own, hOwn, its, TG, ex⟩ := inv
    have dG : DiceAt G2 p := d3.ext ex
    have btG : ButT p H3 G2 := ButT.ofX ex
    have lOwn : own.length = 2 := its.len
    have oB := oB.bx btG.bx d3
    have pt := ptab_bt pt btG d3
    have bt0G := bt03.trans btG
    clear btG ex bt03 d3 T3 na
    -- the calls of makers
    refine ⟨_, rfl, _, rfl, p, rfl, dG, TG, fun l1 vs1 H4 hl1 few1 cl1 d4 bt4 T4 => ?_⟩
    have its := its_bt its bt4 dG
    refine ⟨a4, l1, own, vs1, rfl, rfl, bt4.bx.at_ dG hOwn (its_no its) (fun _ => (nomatch ·)) fun _ => (nomatch ·), hl1, by rw [sizeLine_eq]; omega, fun c1 hc1 => ?_⟩
    have s5 := same_upd (o := .lst (own ++ vs1)) hc1
    have e5 : (upd H4 c1 (.lst (own ++ vs1))) c1 = some (.lst (own ++ vs1)) := upd_same
    have d5 : DiceAt (upd H4 c1 (.lst (own ++ vs1))) p := d4.new hc1
    have n5 : c1 ≠ p := d4.ne hc1
    have T5 := T4.ext s5
    have bt5 : ButT p G2 (upd H4 c1 (.lst (own ++ vs1))) := bt4.trans (ButT.ofSame s5)
    have its := its_bt its (ButT.ofSame (p := p) s5) d4
    have cl1 := cl1.to (ButT.ofSame (p := p) s5) d4
    have oB := oB.bx bt5.bx dG
    have pt := ptab_bt pt bt5 dG
    have bt05 := bt0G.trans bt5
    generalize upd H4 c1 (.lst (own ++ vs1)) = H5 at e5 d5 T5 its cl1 oB pt bt05 ⊢
    clear s5 bt5 bt0G bt4 d4 T4 hl1 dG TG hOwn
    -- the calls of a box
    refine ⟨_, rfl, _, rfl, _, rfl, p, tl, L, tb, n, rfl, d5, T5, hL, fL, pt, np, ok, n1, n4, fun l2 vs2 H6 hl2 few2 cl2 d6 bt6 T6 => ?_⟩
    refine ⟨c1, l2, own ++ vs1, vs2, rfl, rfl, bt6 _ _ e5 n5 fun _ => (nomatch ·), hl2, by rw [sizeLine_eq, List.length_append]; omega, fun c2 hc2 => ?_⟩
    have s7 := same_upd (o := .lst ((own ++ vs1) ++ vs2)) hc2
    have e7 : (upd H6 c2 (.lst ((own ++ vs1) ++ vs2))) c2 = some (.lst ((own ++ vs1) ++ vs2)) := upd_same
    have d7 : DiceAt (upd H6 c2 (.lst ((own ++ vs1) ++ vs2))) p := d6.new hc2
    have n7 : c2 ≠ p := d6.ne hc2
    have T7 := T6.ext s7
    have bt7 : ButT p H5 (upd H6 c2 (.lst ((own ++ vs1) ++ vs2))) := bt6.trans (ButT.ofSame s7)
    have cl2 := cl2.to (ButT.ofSame (p := p) s7) d6
    have its := its_bt its bt7 d5
    have cl1 := cl1.to bt7 d5
    have oB := oB.bx bt7.bx d5
    have pt := ptab_bt pt bt7 d5
    have bt07 := bt05.trans bt7
    generalize upd H6 c2 (.lst ((own ++ vs1) ++ vs2)) = H7 at e7 d7 T7 its cl1 cl2 oB pt bt07 ⊢
    clear s7 bt7 bt05 bt6 d6 T6 hl2 d5 T5 e5
    -- the calls of sights
    refine ⟨_, rfl, _, rfl, _, rfl, _, rfl, p, tl, L, tb, n, rfl, d7, T7, hL, fL, pt, np, ok, n1, n4, fun l3 vs3 H8 hl3 few3 cl3 d8 bt8 T8 => ?_⟩
    refine ⟨c2, l3, (own ++ vs1) ++ vs2, vs3, rfl, rfl, bt8 _ _ e7 n7 fun _ => (nomatch ·), hl3, by rw [sizeLine_eq, List.length_append, List.length_append]; omega, fun c3 hc3 => ?_⟩
    have s9 := same_upd (o := .lst (((own ++ vs1) ++ vs2) ++ vs3)) hc3
    have e9 : (upd H8 c3 (.lst (((own ++ vs1) ++ vs2) ++ vs3))) c3 = some (.lst (((own ++ vs1) ++ vs2) ++ vs3)) := upd_same
    have d9 : DiceAt (upd H8 c3 (.lst (((own ++ vs1) ++ vs2) ++ vs3))) p := d8.new hc3
    have T9 := T8.ext s9
    have bt9 : ButT p H7 (upd H8 c3 (.lst (((own ++ vs1) ++ vs2) ++ vs3))) := bt8.trans (ButT.ofSame s9)
    have cl3 := cl3.to (ButT.ofSame (p := p) s9) d8
    have its := its_bt its bt9 d7
    have cl1 := cl1.to bt9 d7
    have cl2 := cl2.to bt9 d7
    have oB := oB.bx bt9.bx d7
    have bt09 := bt07.trans bt9
    have few : (((own ++ vs1) ++ vs2) ++ vs3).length ≤ 302 := by
      rw [List.length_append, List.length_append, List.length_append]
      omega
    generalize upd H8 c3 (.lst (((own ++ vs1) ++ vs2) ++ vs3)) = H9 at e9 d9 T9 its cl1 cl2 cl3 oB bt09 ⊢
    clear s9 bt9 bt07 bt8 d8 T8 hl3 d7 T7 e7 pt ok
    have step1 : ∀ (cs : Cs), Fits (envOfC "_law_right" (defScope sRt) s.heap.objs.size f (.ref cM)).cells ["_law_bad"] cs [vB] → (∀ r ∈ cs, H9 r.1 = none) → Calls P w K mg base c p (onn cs H9) (((own ++ vs1) ++ vs2) ++ vs3) := fun cs ft n0 => by
      have on : ButT p H9 (onn cs H9) := ButT.ofSame fun b o e => on_at n0 e
      have cl0 : Calls P w K mg base c p (onn cs H9) own := its.calls ft n0 d9 fun x hx => by
        simp only [List.cons_append, List.nil_append, List.mem_cons, List.not_mem_nil, or_false] at hx
        rcases hx with rfl | rfl
        · exact ⟨tell_RT3 Lb d9 oB, by decide +kernel⟩
        · exact ⟨tell_RT4 Lb d9 oB, by decide +kernel⟩
      exact ((cl0.app (cl1.to on d9)).app (cl2.to on d9)).app (cl3.to on d9)
    generalize ((own ++ vs1) ++ vs2) ++ vs3 = all at e9 few step1 ⊢
    clear its cl1 cl2 cl3 oB lOwn few1 few2 few3
    -- each is met
    refine ⟨_, rfl, c3, rfl, ⟨_, SqL.of e9⟩, fun D hD9 => ⟨[vB], rfl, fun cs ft nD => ?_⟩⟩
    have n0 : ∀ r ∈ cs, H9 r.1 = none := fun r hr => by
      have y := nD r hr
      have ne : r.1 ≠ D := fun z => by rw [z, upd_same] at y; cases y
      rw [upd_ne ne] at y
      exact y
    have outD : D ∉ cs.map (·.1) := fun z => by
      obtain ⟨r, hr, e⟩ := List.mem_map.mp z
      have y := nD r hr
      rw [e, upd_same] at y
      cases y
    have calls := step1 cs ft n0
    have e9' : onn cs H9 c3 = some (.lst all) := on_at n0 e9
    refine lcK_list (xs := all) outD (fun i G => Same (onn cs H9) G ∧ ∃ acc : List Str, acc.length = i ∧ G D = some (.lst (acc.map V.str)) ∧ DuesOf (onn cs H9) all acc ∧ ∀ d ∈ acc, PyData.canLay0 (.str d) = true) ?_ (fun i G _ h => SqL.of (h.1 _ _ e9')) ?_ ?_
    · refine ⟨fun b o e => ?_, [], rfl, by rw [onn_out outD]; exact upd_same, fun _ _ z => (nomatch z), fun _ z => (List.not_mem_nil z).elim⟩
      by_cases z : b ∈ cs.map (·.1)
      · obtain ⟨r, hr, rfl⟩ := List.mem_map.mp z
        rw [onn_lay ft.nd r hr] at e ⊢
        exact e
      · rw [onn_out z] at e ⊢
        exact same_upd hD9 _ _ e
    · rintro i x G hx ⟨sG, acc, hacc, hDG, dues, lays⟩
      obtain ⟨t, g, due, rfl, ht, tells, lay⟩ := calls x (List.mem_of_getElem? hx)
      refine ⟨t, _, rfl, SqT.of (sG _ _ ht), rfl, _, _, rfl, _, _, rfl, rfl, rfl, ?_⟩
      refine ⟨_, rfl, g, ButT p (onn cs H9), _, rfl, tells, ButT.ofSame sG, fun vs H Q Q' E E' _ e ⟨h1, h2⟩ => ⟨h1, fun cls d H' s w => e _ _ _ (h2 cls d H' s w)⟩, rfl, fun cls d H' s ew => ⟨due, ew, ?_⟩⟩
      have ne : ∀ b o, onn cs H9 b = some o → b ≠ D := fun b o e z => by
        rw [z, onn_out outD, hD9] at e
        cases e
      refine ⟨_, s _ _ hDG, by rw [List.length_map, sizeLine_eq]; have := (List.getElem?_eq_some_iff.mp hx).1; omega, fun b o e => ?_, acc ++ [due], by rw [List.length_append, hacc] <;> rfl, ?_, ?_, ?_⟩
      · rw [upd_ne (ne b o e)]
        exact s _ _ (sG _ _ e)
      · rw [upd_same, List.map_append] <;> rfl
      · exact dues.snoc (by rw [hacc]; exact hx) ht
      · intro d hd
        rcases List.mem_append.mp hd with z | z
        · exact lays d z
        · rw [List.mem_singleton.mp z]
          exact lay
    · rintro G ⟨sG, acc, hacc, hDG, dues, lays⟩
      refine ⟨lay_same ft.nd sG, ?_⟩
      have s10 : Same H9 (FV.off cs G) := same_off n0 sG
      have e10 : FV.off cs G D = some (.lst (acc.map V.str)) := by rw [off_out outD]; exact hDG
      have dues : DuesOf H9 all acc := fun j d h => let ⟨t, f, e1, e2⟩ := dues j d h; ⟨t, f, e1, on_tup ft.nd e2⟩
      generalize FV.off cs G = H10 at s10 e10 ⊢
      have calls9 : ∀ x ∈ all, ∃ (t f : Addr) (d : Str), x = .ref t ∧ H9 t = some (.tup [.ref f, .str d]) ∧ PyData.canLay0 (.str d) = true := fun x hx => let ⟨t, f, d, e, h, _, l⟩ := calls x hx; ⟨t, f, d, e, on_tup ft.nd h, l⟩
      clear sG hDG calls step1 e9' outD n0 nD
      -- the words that are due
      refine ⟨_, rfl, c3, rfl, ⟨_, SqL.of (s10 _ _ e9)⟩, fun D2 hD2 => ?_⟩
      refine lc_list (xs := all) (fun i G => Same H10 G ∧ ∃ acc2 : List Str, acc2.length = i ∧ G D2 = some (.lst (acc2.map V.str)) ∧ DuesOf H9 all acc2) ⟨same_upd hD2, [], rfl, upd_same, fun _ _ z => (nomatch z)⟩ (fun i G _ h => SqL.of (h.1 _ _ (s10 _ _ e9))) ?_ ?_
      · rintro i x G hx ⟨sG, acc2, hacc2, hDG, dues2⟩
        obtain ⟨t, g, due, rfl, ht, _⟩ := calls9 x (List.mem_of_getElem? hx)
        refine ⟨t, _, rfl, SqT.of (sG _ _ (s10 _ _ ht)), rfl, _, _, rfl, _, _, rfl, rfl, rfl, ?_⟩
        refine ⟨_, rfl, _, hDG, by rw [List.length_map, sizeLine_eq]; have := (List.getElem?_eq_some_iff.mp hx).1; omega, same_at sG hD2, acc2 ++ [due], by rw [List.length_append, hacc2] <;> rfl, by rw [upd_same, List.map_append] <;> rfl, dues2.snoc (by rw [hacc2]; exact hx) ht⟩
      · rintro G ⟨sG, acc2, hacc2, hDG, dues2⟩
        obtain rfl := dues_one dues dues2 hacc hacc2
        refine ⟨_, _, .lst (SqL.of (sG _ _ e10)) (dp_strs acc), .lst (SqL.of hDG) (dp_strs acc), (shaped_strs acc lays).1, (shaped_strs acc lays).1, ?_⟩
        rw [SeqAt.eqv_refl _ (SeqAt.canLay_of_shaped (shaped_strs acc lays).1)]
        exact q _ (bt09.trans (ButT.ofSame (s10.trans sG))) (T9.ext (s10.trans sG))
end
end WK
set_option Elab.async false
set_option linter.all false
set_option maxRecDepth 100000
set_option maxHeartbeats 8000000
namespace WK
open PySem L2 PyProof.Rows LCX K1 FV LamX NdefX RM
open TX (sg sigs)
open PySem.W (Frag kitOne)
abbrev qLw : Str := (envOfC "law" (defScope sLw) 0 0 .none).qual ++ "<lambda>"
abbrev NLw : List Str := ["_law_script", "_law_spot", "_law_told"]
theorem scLw : FnScope NLw ["_law_script"] (defScope sLw) := ⟨rfl, rfl, rfl, by decide +kernel, rfl, by decide +kernel, by decide +kernel⟩
def spLw (K : Frag) (T : List (Addr × Str)) : Sp := fun vs H Q _ => ∃ (s : Addr) (ns : List Int), vs = [.ref s] ∧ SqL K H s (ns.map V.int) ∧ ns.length ≤ 63 ∧ Tabs T H ∧ ∀ H', Q (.bl true) H'
theorem seqB {K : Frag} {p : Addr} {H H' : Hp} {a : Addr} {xs : List V} (e : ∀ b o, H b = some o → (∀ ps, o ≠ .tbl ps) → H' b = some o) (h : SqL K H a xs) : SqL K H' a xs := by
  rcases h with (h | ⟨o, h⟩) | h
  · exact .inl (.inl (e _ _ h fun _ z => nomatch z))
  · exact .inl (.inr ⟨o, e _ _ h fun _ z => nomatch z⟩)
  · exact .inr h
theorem off_nil (H : Hp) : FV.off [] H = H := funext fun b => FV.off_out (List.not_mem_nil)
/-- the lambda of a call of the checker -/
def metLam : Stmt → Expr
  | .Assign _ (.List (.Call _ (l :: _) _ _ :: _) _) _ => l
  | _ => .Constant .none 0 ⟨0, 0, 0, 0⟩
abbrev lLw : Expr := metLam (nthS sLw 1)
abbrev six : List (List Int) := [[0], [0], [0], [0], [0], [0]]
theorem tab_six : TabOk six 1 6 := ⟨rfl, fun r hr => by
  simp only [List.mem_cons, List.not_mem_nil, or_false, or_self] at hr
  rw [hr]
  exact ⟨rfl, fun x hx => by rw [List.mem_singleton.mp hx]; exact ⟨by decide, by decide⟩⟩⟩
theorem six_of (m : Addr) : (List.replicate (6 : Int).toNat [V.ref m]).flatten = ([m, m, m, m, m, m] : List Addr).map V.ref := rfl
section
variable {P : Program} {w : World} {K : Frag} {mg : Str → Option Value} {base : Heap} {c : ErrC} {C CB fD cM PM : Addr} {dD : FuncData} {mc : Value} {T : List (Addr × Str)}
/-- what the law itself asks of boxes -/
structure LibL (P : Program) (w : World) (K : Frag) (mg : Str → Option Value) (base : Heap) (c : ErrC) (CB : Addr) (mc : Value) (T : List (Addr × Str)) : Prop where
  clerkR : ∃ p g, ClX.CMet K CB mc "clerk" p g ∧ FnR P w K mg base (L2.CX P w) 8 g (fun vs H Q E => spClerkR T CB c.T (vs ++ []) H Q E)
  clerk : ∃ p g, ClX.CMet K CB mc "clerk" p g ∧ FnR P w K mg base CX0 7 g (fun vs H Q E => spClerk T CB (vs ++ []) H Q E)
  len : ∃ g, PySem.W.findIn K (.ref CB) "__len__" = some (some (.ref g)) ∧ PySem.W.isFn K (.ref g) = true ∧ FnR P w K mg base CX0 1 g (fun vs H Q E => spBLen CB (vs ++ []) H Q E)
  made : ∃ t, mg "MAX_MADE" = some (.int 400 t)
  plc : ∃ t, mg "MAX_PLACES" = some (.int 6 t)
/-- the lambda: too many places -/
theorem lam_many (Lb : Lib P w K mg base c C CB mc) (LL : LibL P w K mg base c CB mc T) {H : Hp} {f c' : Addr} (hf : H f = some (LamO f ⟨"<lambda>", qLw, lamPar lLw, [], lamSc lLw, cloFrom [] (lamSc lLw).names [], c'⟩ (lamBody lLw))) (hc : H c' = some (CodeO c' qLw)) :
    CallV P w K mg base (L2.CX P w) 9 f (fun G => G f = some (LamO f ⟨"<lambda>", qLw, lamPar lLw, [], lamSc lLw, cloFrom [] (lamSc lLw).names [], c'⟩ (lamBody lLw)) ∧ G c' = some (CodeO c' qLw)) (fun vs H _ E => vs = [] ∧ Tabs T H ∧ ManyG T c.T H E) := by
  have lk : LOk P w K mg base (L2.CX P w) 9 f ⟨"<lambda>", qLw, lamPar lLw, [], lamSc lLw, cloFrom [] (lamSc lLw).names [], c'⟩ (lamBody lLw) [] (fun ws vs H _ E => vs = [] ∧ ws = [] ∧ Tabs T H ∧ ManyG T c.T H E) := by
    refine lok_of (N := []) (ps := []) (show NScope [] [] [] (lamSc lLw) from nscope_by (by decide +kernel)) (fun pm cv ctv us hl => ?_) (fun ws vs H Q E h => by rw [h.1] <;> rfl) (fun A outer s H vs ws Q E hr hw h => ?_)
    · have : us = [] := List.length_eq_zero_iff.mp hl
      rw [this]
      rfl
    · obtain ⟨rfl, rfl, tb, e⟩ := h
      obtain ⟨pm, gm, hcm, hfr⟩ := LL.clerkR
      refine ⟨_, ClX.pe_cmeth (E := E) (pe_glob rfl Lb.gB (show RelV (.ref CB) (.ref CB) from rfl)) Lb.rd hcm hfr hr (passes_call (takes_of rfl rfl rfl rfl) (fun _ _ _ _ h => h)) (pa_cons pe_str (pa_cons pe_int (pa_cons pe_int pa_nil))), ?_⟩
      exact ⟨rfl, [97, 98], 9, 12, 441, rfl, by decide, by decide, by decide, by decide, let_ab, tb, cnt_441, e⟩
  have only : ∀ (y : Str) (d : Addr), (cloFrom [] (lamSc lLw).names []).lookup y = some d → y ∈ ([] : List Str) := by
    have : cloFrom [] (lamSc lLw).names [] = [] := rfl
    intro y d e
    rw [this] at e
    cases e
  refine CallV.imp (callV_lam lk (cs := []) (vals := []) ⟨rfl, fun i y e => (by cases e), only, fun x y d e _ => (List.not_mem_nil (only x d e)).elim⟩ ⟨List.nodup_nil, fun _ h => (List.not_mem_nil h).elim⟩) (fun G g => ⟨g.1, g.2, fun _ h => (List.not_mem_nil h).elim⟩) (fun vs G Q E g ⟨e, t, m⟩ => ⟨e, rfl, by rw [off_nil]; exact t, ?_⟩)
  rw [off_nil]
  exact fun d H' n gr x _ => m d H' n gr x
theorem ok_lw {f : Addr} {oc kV doc pm ct : Value} {an od : Option Addr} {osl : Array (Option Value)} (lk : K.lookup f = some ⟨oc, od, .func (PySem.W.fnOf "law" "law" (defArgs sLw) (defBody sLw) (defScope sLw) .none kV doc pm an (.ref cM) ct), osl⟩) (hcd : PySem.W.codeIn K (.ref cM) "law" = true)
    (Lb : Lib P w K mg base c C CB mc) (LL : LibL P w K mg base c CB mc T) (TB : TabB base mg cM PM) (mem : (PM, qLw) ∈ T) (uniq : ∀ p ∈ T, p.1 = PM → p.2 = qLw) (TT : TN mg) (AD : Fn K mg "_law_dice" sDice ["_law_script", "_law_at"] fD dD) (GD : FnOk P w K mg base CX0 1 fD dD ["_law_script", "_law_at"] (spDice K))
    (HR : HasG P w K mg base 12 "_law_right" ["_law_dice_here"] (spRt T)) (HM : HasG P w K mg base 13 "_law_met" ["_law_call"] (spMet P w K mg base c 9)) :
    WG.FnG P w K mg base 14 f (PySem.W.fnOf "law" "law" (defArgs sLw) (defBody sLw) (defScope sLw) .none kV doc pm an (.ref cM) ct) ["_law_script"] (spLw K T) := by
  obtain ⟨pk, gk, ck, fk⟩ := LL.clerk
  obtain ⟨gN, nAt, nFn, nR⟩ := LL.len
  obtain ⟨tm, gm⟩ := LL.made
  obtain ⟨tp, gp⟩ := LL.plc
  obtain ⟨fi, fdi, MI, GI, bI⟩ := id Lb.made
  refine okGx (N := NLw) lk hcd scLw (fun vs H Q E h => ?_) (fun A outer s H vs Q E hr hg h => ?_)
  · obtain ⟨sc, ns, rfl, _⟩ := h
    rfl
  · obtain ⟨sc, ns, rfl, hS, hl, hT, q⟩ := h
    have hr1 : Room 1 _ := hr.mono (by decide)
    have hr2 : Room 2 _ := hr.mono (by decide)
    have hr6 : Room 6 _ := hr.mono (by decide)
    have hr7 : Room 7 _ := hr.mono (by decide)
    have hr12 : Room 12 _ := hr.mono (by decide)
    have hu : (A.deeper (envOfC "law" (defScope sLw) s.heap.objs.size f (.ref cM))).units + 64 < cLine := by
      have := hr.un
      omega
    have z0 : PS (cxOf CX0 P w K mg base NLw "law" (defScope sLw) f (.ref cM) A outer s H E).nox (nthS sLw 0) _ := ps_for PassesOwn.never rfl (pi_range1 rfl TT.rng (pa_cons (pe_callB (call_max2 rfl) (by rfl) TT.max (by decide +kernel) (pa_cons pe_int (pa_cons (pe_callB (call_min2 rfl) (by rfl) TT.min (by decide +kernel) (pa_cons pe_int (pa_cons (pe_callB call_len_seq (by rfl) TT.len PySem.boot_len (pa_cons (pv 0) pa_nil)) pa_nil))) pa_nil))) pa_nil)) (pg_name (i := 1) scLw.nd rfl (Or.inl rfl))
        (pss_one (ps_if (pt_not (pt_val (pe_hasG (E := E0) HR hr12 hg (pa_cons (pe_call GD hr1 rfl AD.g AD.F.kp AD.b .nil pass0 (pa_cons (pv 0) (pa_cons (pv 1) pa_nil))) pa_nil)))) (pss_one (ps_ret pe_bl)) pss_nil))
    have hL : PE (cxOf CX0 P w K mg base NLw "law" (defScope sLw) f (.ref cM) A outer s H E).nox lLw (tLamV (cxOf CX0 P w K mg base NLw "law" (defScope sLw) f (.ref cM) A outer s H E).nox T (lamPar lLw) (lamBody lLw) (lamSc lLw)) := pe_lamV TB rfl mem uniq rfl (fun ok y hy e => absurd e ((by decide +kernel : ∀ y ∈ (lamSc lLw).names, y.2 ≠ .free) y hy))
    have z1 : PS (cxOf CX0 P w K mg base NLw "law" (defScope sLw) f (.ref cM) A outer s H E).nox (nthS sLw 1) _ := ps_set (i := 2) scLw.nd rfl (Or.inl rfl) (pe_lst (pa_cons (pe_hasG (E := E0) HM hr hg (pa_cons hL pa_nil)) (pa_cons (pe_callB (OWN.call_lenO nAt nFn nR hr2) (by rfl) TT.len PySem.boot_len (pa_cons (ClX.pe_cmeth (E := E0) (pe_glob rfl Lb.gB (show RelV (.ref CB) (.ref CB) from rfl)) Lb.rd ck fk hr7 pass0 (pa_cons pe_str (pa_cons pe_int (pa_cons pe_int pa_nil)))) pa_nil))
        (pa_cons (pe_callB (OWN.call_lenO nAt nFn nR hr2) (by rfl) TT.len PySem.boot_len (pa_cons (pe_make (E := E0) MI GI hr6 rfl Lb.gB bI .nil pass0 (pa_cons pe_str (pa_cons (pe_op op_repT (pe_tup (pa_cons (pe_tup (pa_cons pe_int pa_nil)) pa_nil)) pe_int) pa_nil))) pa_nil)) pa_nil))))
    have z2 : PS (cxOf CX0 P w K mg base NLw "law" (defScope sLw) f (.ref cM) A outer s H E).nox (nthS sLw 2) _ := ps_ret (pe_cmpR (op_eqD hu) (pe_op op_cat (pv 2) (pe_lst (pa_cons (pe_glob rfl gm (show RelV (.int 400) (.int 400 tm) from ⟨tm, rfl⟩)) (pa_cons (pe_glob rfl gp (show RelV (.int 6) (.int 6 tp) from ⟨tp, rfl⟩)) pa_nil)))) (pe_lst (pa_cons pe_str (pa_cons pe_int (pa_cons pe_int (pa_cons pe_int (pa_cons pe_int pa_nil)))))) (nomark _))
    refine ⟨_, pss_cons z0 (pss_cons z1 (pss_one z2)), ?_⟩
    clear z0 z1 z2 hL
    have len : ((ns.map V.int).length : Int) ≤ 63 := by
      rw [List.length_map]
      omega
    have len0 : (0 : Int) ≤ ((ns.map V.int).length : Int) := Int.natCast_nonneg _
    refine ⟨_, rfl, sc, _, rfl, .inl hS, _, _, rfl, _, _, rfl, _, rfl, by split <;> split <;> omega, by split <;> split <;> omega, ?_⟩
    refine for_range (lo := 0) (fun i σ H1 => (∃ a b, σ = [some (.ref sc), a, b]) ∧ ExtN H H1 ∧ Tabs T H1) ⟨⟨_, _, rfl⟩, ExtN.refl H, hT⟩ ?_ ?_
    · rintro i σ H1 hi ⟨⟨a, b, rfl⟩, s1, t1⟩
      refine ⟨_, rfl, _, rfl, sc, ns, _, rfl, seqB (p := sc) s1 hS, by omega, fun p H2 hp s2 hD => ?_⟩
      refine ⟨p, rfl, hD, t1.ext s2, fun H3 b3 t3 => ⟨true, rfl, ?_⟩⟩
      exact ⟨⟨_, _, rfl⟩, fun b o e n => b3 _ _ (s2 _ _ (s1 b o e n)) (ne_of_none (s1 b o e n) hp) n, t3⟩
    rintro σ H1 ⟨⟨a, b, rfl⟩, _, t1⟩
    -- the lambda, met
    refine ⟨t1, fun f' c' H2 nf gr hf hc => ?_⟩
    have cv := lam_many (P := P) (w := w) (mg := mg) (base := base) Lb LL hf hc
    refine ⟨f', _, _, rfl, cv, ⟨hf, hc⟩, fun vs H Q Q' E E' _ e ⟨h1, h2, h3⟩ => ⟨h1, h2, fun d H' n g x => e _ _ _ (h3 d H' n g x)⟩, rfl, gr.2.1, fun d H3 nd g3 hd => ⟨"many 400", .t hd, ?_⟩⟩
    -- 400 places
    refine ⟨rfl, [97, 98], 8, 12, rfl, by decide, by decide, by decide, by decide, let_ab, g3.2.1, 400, cnt_400.1, Nat.le_refl _, fun o H4 no g4 bx => ?_⟩
    have e400 := cnt_400.2
    generalize (exAll (cntF [97, 98] 8 12) [97, 98] (zeros [97, 98]) 400).2 = tb at bx e400
    obtain ⟨dx, r, i4, _⟩ := id bx
    refine ⟨o, dx, _, rfl, i4, o, [97, 98], tb, rfl, bx, 400, by rw [e400] <;> rfl, by decide, ?_⟩
    -- six places
    refine ⟨by rw [sizeLine_eq]; simp only [List.length_cons, List.length_nil]; omega, fun t1 ht1 => ⟨by rw [sizeLine_eq]; simp only [List.length_cons, List.length_nil]; omega, fun t2 ht2 => ?_⟩⟩
    have s1 := same_upd (o := .tup [.int 0]) ht1
    have s2 := same_upd (o := .tup [.ref t1]) ht2
    have e1 : (upd (upd H4 t1 (.tup [.int 0])) t2 (.tup [.ref t1])) t1 = some (.tup [.int 0]) := s2 _ _ upd_same
    have e2 : (upd (upd H4 t1 (.tup [.int 0])) t2 (.tup [.ref t1])) t2 = some (.tup [.ref t1]) := upd_same
    generalize upd (upd H4 t1 (.tup [.int 0])) t2 (.tup [.ref t1]) = H5 at e1 e2 ⊢
    refine ⟨t2, 6, [.ref t1], rfl, rfl, SqT.of e2, List.cons_ne_nil _ _, by decide, by decide, (by show 1 ≤ 1000; decide), fun t3 ht3 => ?_⟩
    rw [six_of]
    have s6 := same_upd (o := .tup (([t1, t1, t1, t1, t1, t1] : List Addr).map V.ref)) ht3
    have e3 := s6 _ _ e1
    have r6 : RowsAt (upd H5 t3 (.tup (([t1, t1, t1, t1, t1, t1] : List Addr).map V.ref))) t3 six := ⟨[t1, t1, t1, t1, t1, t1], upd_same, e3, e3, e3, e3, e3, e3, trivial⟩
    generalize upd H5 t3 (.tup (([t1, t1, t1, t1, t1, t1] : List Addr).map V.ref)) = H6 at r6 ⊢
    intro x dx2 hx hdx ne
    have s7 : Same H6 (upd (upd H6 dx2 (.own x)) x (.ins CB dx2 [])) := fun b o z => by rw [upd_ne (ne_of_none z hx), upd_ne (ne_of_none z hdx)]; exact z
    refine ⟨x, dx2, [97], t3, six, 6, rfl, let_a, upd_same, r6.keep (Same.tup' s7), tab_six, by decide, by decide, fun H7 g1 g2 g3 => ⟨rfl, ?_⟩⟩
    refine ⟨x, dx2, _, rfl, g1, x, [97], six, rfl, ⟨dx2, t3, g1, g3⟩, 6, rfl, by decide, ?_⟩
    -- compared
    rw [show ((tb.length : Nat) : Int) = 400 by rw [e400] <;> rfl, show ((six.length : Nat) : Int) = 6 from rfl]
    refine ⟨by rw [sizeLine_eq]; simp only [List.length_cons, List.length_nil]; omega, fun l1 hl1 => ?_⟩
    refine ⟨_, rfl, by rw [sizeLine_eq]; simp only [List.length_cons, List.length_nil]; omega, fun l2 hl2 => ?_⟩
    have k1 := same_upd hl2 (o := .lst [.int 400, .int 6]) _ _ (upd_same (H := H7) (a := l1) (o := .lst [.str "many 400", .int 400, .int 6]))
    refine ⟨l1, l2, _, _, rfl, rfl, k1, upd_same, by rw [sizeLine_eq]; decide, fun l3 hl3 => ?_⟩
    refine ⟨by rw [sizeLine_eq]; simp only [List.length_cons, List.length_nil]; omega, fun l4 hl4 => ?_⟩
    have k3 := same_upd hl4 (o := .lst [.str "many 400", .int 400, .int 6, .int 400, .int 6]) _ _ (upd_same (H := (upd (upd H7 l1 (.lst [.str "many 400", .int 400, .int 6])) l2 (.lst [.int 400, .int 6]))) (a := l3) (o := .lst ([.str "many 400", .int 400, .int 6] ++ [.int 400, .int 6])))
    refine ⟨.list [.str "many 400", .int 400, .int 6, .int 400, .int 6], .list [.str "many 400", .int 400, .int 6, .int 400, .int 6], .lst (SqL.of k3) (.cons (.str _) (.cons (.int _) (.cons (.int _) (.cons (.int _) (.cons (.int _) .nil))))), .lst (SqL.of upd_same) (.cons (.str _) (.cons (.int _) (.cons (.int _) (.cons (.int _) (.cons (.int _) .nil))))), by decide +kernel, by decide +kernel, ?_⟩
    rw [SeqAt.eqv_refl _ (SeqAt.canLay_of_shaped (by decide +kernel))]
    exact q _
end
end WK
set_option Elab.async false
set_option linter.all false
set_option maxRecDepth 100000
set_option maxHeartbeats 4000000
namespace WG
open PySem PySem.Spec L2 PyProof.Rows LamX
section
variable {P : Program} {w : World} {K : PySem.W.Frag} {mg mb : Str → Option Value} {k : Nat} {fa a : Addr} {fd : FuncData} {x : Str} {sp : Sp} {s1 : Shared} {vs : List Value} {ns : List Int} {cs : List (Addr × Addr)}
/-- what an abstract heap at the entry may hold: the script, and the tables, which are empty -/
structure Entry (cs : List (Addr × Addr)) (K : PySem.W.Frag) (a : Addr) (H : Hp) : Prop where
  tabs : ∀ p ∈ cs, H p.2 = some (.tbl #[])
  only : ∀ b, H b = none ∨ (∃ p ∈ cs, p.2 = b) ∨ (b = a ∧ K.lookup a = none ∧ ∃ o xs, H b = some (.frz o (.lst xs)))
theorem endGT (H : Hp) (En : Entry cs K a H) (hS : SqL K H a (ns.map V.int)) (hok : HOk P w H s1.heap) (KX : K.In s1.heap) (hns : s1.heap.Ns mainGlobals mg) (hb : s1.heap.Ns builtinsNs mb)
    (hbb : ∀ x : Str, x ≠ "__name__" → mb x = bootBuiltins x) (hlim : s1.heap.NoLimit) (hg : s1.gens = #[]) (hT : ∀ p ∈ cs, s1.heap.get? p.2 = some { cls := .none, data := .fields #[] }) (nT : ∀ p ∈ cs, K.lookup p.2 = none) (C : ∀ p ∈ cs, PySem.W.CodeHd s1.heap p.1 p.2)
    (hbm : ∃ (bm : Addr) (ob : Obj), mg "__builtins__" = some (.ref bm) ∧ bm ≠ builtinsNs ∧ s1.heap.get? bm = some ob ∧ ob.cls = .type "module" ∧ ob.dict = some builtinsNs ∧ ob.data = .plain)
    (ha : s1.heap.get? a = some { cls := .type "list", data := .seq vs.toArray }) (hr : Room k callerA)
    (F : ∀ base : Heap, K.In base → base.Ns mainGlobals mg → (∀ p ∈ cs, TabB base mg p.1 p.2) → FnG P w K mg base k fa fd [x] sp) (hbind : ∀ (s : Shared) (u : Value), BindsTo s fd ⟨[u], []⟩ [(x, u)]) (hsp : sp [.ref a] H (fun v _ => v = .bl true) fun _ _ _ => False) :
    codeAny (model P w) callerA (.call (.ref fa) ⟨[.ref a], []⟩) (fun r s' => r = .ok (.ret (.bool true)) ∧ OldK s1.heap s'.heap ∧ s'.os = s1.os ∧ AllBare s'.gens) s1 := by
  -- what is neither a list nor an empty row of fields is not tracked
  have free : ∀ {b : Addr} {o : Obj}, s1.heap.get? b = some o → (∀ u n, o.data ≠ .seq u n) → o.data ≠ .fields #[] → H b = none := fun {b o} e n1 n2 => by
    rcases En.only b with z | ⟨p, hp, rfl⟩ | ⟨rfl, _⟩
    · exact z
    · rw [hT p hp] at e
      cases e
      exact absurd rfl n2
    · rw [ha] at e
      cases e
      exact absurd rfl (n1 _ _)
  have down : ∀ {b : Addr} {o : Obj}, s1.heap.get? b = some o → (∀ u n, o.data ≠ .seq u n) → o.data ≠ .fields #[] → (hidT s1.heap H).get? b = some o := fun e n1 n2 => hidT_get e (free e n1 n2)
  have dict : ∀ {b : Addr} {m : Str → Option Value}, s1.heap.Ns b m → (hidT s1.heap H).Ns b m := fun {b m} ⟨o, es, ep, e, d, r⟩ => ⟨o, es, ep, down e (fun u n z => nomatch d.symm.trans z) (fun z => nomatch d.symm.trans z), d, r⟩
  have kin : K.In (hidT s1.heap H) := fun b o e => by
    refine hidT_get (KX b o e) ?_
    rcases En.only b with z | ⟨p, hp, rfl⟩ | ⟨rfl, z, _⟩
    · exact z
    · exact nomatch e.symm.trans (nT p hp)
    · exact nomatch e.symm.trans z
  have md : Mod K mg (hidT s1.heap H) := ⟨kin, dict hns, ⟨mb, dict hb, hbb⟩, let ⟨mc, h1, h2⟩ := hlim; ⟨mc, dict h1, h2⟩⟩
  obtain ⟨gO, ges, gep, gAt, gD, _⟩ := id hns
  have tab : ∀ p ∈ cs, TabB (hidT s1.heap H) mg p.1 p.2 := fun p hp => by
    have tp := hT p hp
    obtain ⟨bm, ob, b1, b2, b3, b4, b5, b6⟩ := hbm
    refine ⟨?_, ⟨bm, ob, b1, b2, fun z => ?_, fun z => ?_, down b3 (fun u n z => nomatch b6.symm.trans z) (fun z => nomatch b6.symm.trans z), b4, b5, b6⟩, fun z => ?_⟩
    · obtain ⟨o, us, file, tf, flags, tg, inF, text, tt, e1, r1, r2, r3, rest⟩ := C p hp
      refine ⟨o, us, file, tf, flags, tg, inF, text, tt, down e1 (fun u n z => nomatch r2.symm.trans z) (fun z => ?_), r1, r2, r3, rest⟩
      have y := r2.symm.trans z
      cases y
      simp at r3
    · rw [z, gAt] at b3
      cases b3
      exact nomatch gD.symm.trans b6
    · rw [z, tp] at b3
      cases b3
      cases b6
    · rw [z, tp] at gAt
      cases gAt
      cases gD
  have e0 : Env0 P w K mg (hidT s1.heap H) callerA [] s1 H := ⟨rfl, md, fun b o e => of_hidT e, Nat.le_of_eq (hidT_size _ _), trivial, fun b hb => absurd (show b ∈ ([] : List Addr) from hb) (by simp), hok, .of_eq hg⟩
  refine codeAny_mono ((F _ kin (dict hns) tab).run callerA [] s1 H ⟨[.ref a], []⟩ [.ref a] [.ref a] _ _ hr rfl e0 (hbind s1 (.ref a)) (.cons rfl .nil) hsp) fun r s' h => ?_
  cases r with
  | error e => exact False.elim (show False from h)
  | ok fl =>
    cases fl with
    | next => exact False.elim h
    | brk => exact False.elim h
    | cont => exact False.elim h
    | ret u =>
      rcases h with ⟨v, H', os, bare, un, hok', r', q⟩
      cases (q : v = .bl true)
      cases (r' : u = Value.bool true)
      -- each object stands, or is a table that may have grown
      have each : ∀ b o, s1.heap.get? b = some o → s'.heap.get? b = some o ∨ ∃ p ∈ cs, p.2 = b ∧ ∃ more : Array Value, s'.heap.get? b = some { cls := .none, data := .fields more } := fun b o e => by
        rcases En.only b with z | ⟨p, hp, y⟩ | ⟨_, _, ob, xs, z⟩
        · exact .inl (un.keep b o e z (by intro y; exact absurd (show b ∈ ([] : List Addr) from y) (by simp)) (by simp))
        · obtain ⟨more, z⟩ := un.tbls p.2 #[] (En.tabs p hp)
          exact .inr ⟨p, hp, y, _, y ▸ hok' p.2 _ z⟩
        · obtain ⟨e1, _⟩ := hok b _ z
          obtain ⟨e2, _⟩ := hok' b _ (un.frzs b ob _ z)
          rw [e] at e1
          cases e1
          exact .inl e2
      refine And.intro rfl (And.intro ⟨fun b o e => ?_, fun b o e => ?_⟩ ⟨os, bare⟩)
      · rcases each b o e with z | ⟨p, hp, y, more, z⟩
        · exact .inl z
        · subst y
          rw [hT p hp] at e
          cases e
          exact .inr (.inl ⟨((C p hp).tab (hT p hp)).isCodeTable, rfl, #[], more, rfl, by rw [Array.empty_append]; exact z⟩)
      · rcases each b o e with z | ⟨p, hp, y, more, z⟩
        · exact ⟨o, z⟩
        · exact ⟨_, z⟩
end
/-- as LamX.LawAtS, of a law that holds where nothing is being written out -/
def LawAtG (l : PySem.W.OpenLaw) (w : World) (K : PySem.W.Frag) (k n : Nat) (x : Str) (mg : Str → Option Value) (fa : Addr) (h : Heap) : Prop :=
  ∃ (fd : FuncData) (cs : List (Addr × Addr)) (sp : Sp), (∀ p ∈ cs, h.get? p.2 = some { cls := .none, data := .fields #[] } ∧ K.lookup p.2 = none ∧ PySem.W.CodeHd h p.1 p.2) ∧ (∀ (s : Shared) (u : Value), BindsTo s fd ⟨[u], []⟩ [(x, u)]) ∧
    (∀ (H : Hp) (a : Addr) (ns : List Int), ns.length ≤ n → (∀ p ∈ cs, H p.2 = some (.tbl #[])) → SqL K H a (ns.map V.int) → sp [.ref a] H (fun v _ => v = .bl true) fun _ _ _ => False) ∧
    ∀ base : Heap, K.In base → base.Ns mainGlobals mg → (∀ p ∈ cs, TabB base mg p.1 p.2) → FnG l.prog w K mg base k fa fd [x] sp
theorem walkGTE {l : PySem.W.OpenLaw} {n k : Nat} {q : Program} {loose : List Str} {XP : (Str → Option Value) → Heap → Prop} {YP : World → Heap → Prop} {d : DefRec} {x : Str}
    (hn : l.most = some n) (hn2 : n ≤ sizeLine) (hdf : d.params.defaults = []) (hr : Room k callerA)
    (F : ∀ (w : World) (mg : Str → Option Value) (fa : Addr) (h : Heap), YP w h → h.Ns mainGlobals mg → mg d.name = some (.ref fa) → ∃ K : PySem.W.Frag, K.In h ∧ LawAtG l w K k n x mg fa h) :
    PySem.W.WalkO q loose XP YP l.row.toRowW d [] (fun f vs => PySem.call f vs) := by
  refine Att.attach_call hn hdf fun w s0 s1 mg mb fa o pm cd doc a vs ns G Y ho hd hcd hmg ha hi hlen hg => ?_
  have hl := Nat.le_trans hlen hn2
  have rv := vals_ints hi
  have lenV := hi.length
  obtain ⟨K, KX, fd, cs, sp, hcs, hbind, hsp, hF⟩ := F w mg fa _ Y G.T.g hmg
  have hT := fun p hp => (hcs p hp).1
  have nT := fun p hp => (hcs p hp).2.1
  have hC := fun p hp => (hcs p hp).2.2
  have apart : ∀ p ∈ cs, p.2 ≠ a := fun p hp z => by
    have y := hT p hp
    rw [z, ha] at y
    cases y
  cases hk : K.lookup a with
  | some ob =>
    have e := KX a ob hk
    rw [ha] at e
    cases e
    have hS : ∀ H : Hp, SqL K H a (ns.map V.int) := fun H => .inr ⟨_, vs.toArray, _, hk, rfl, rfl, rfl, by rw [List.size_toArray, lenV]; exact hl, by simpa using rv⟩
    have row : ∀ b, (∃ p ∈ cs, p.2 = b) → (fun b => if b ∈ cs.map (·.2) then some (HO.tbl #[]) else none : Hp) b = some (.tbl #[]) := fun b ⟨p, hp, e⟩ => if_pos (List.mem_map.mpr ⟨p, hp, e⟩)
    refine endGT (fun b => if b ∈ cs.map (·.2) then some (.tbl #[]) else none) ⟨fun p hp => row _ ⟨p, hp, rfl⟩, fun b => ?_⟩ (hS _) (fun b u z => ?_) KX G.T.g G.T.b G.T.builtins G.T.nolimit hg hT nT hC G.T.bmain ha hr hF hbind (hsp _ a ns hlen (fun p hp => row _ ⟨p, hp, rfl⟩) (hS _))
    · by_cases hb : b ∈ cs.map (·.2)
      · exact .inr (.inl (List.mem_map.mp hb))
      · exact .inl (if_neg hb)
    · by_cases hb : b ∈ cs.map (·.2)
      · obtain ⟨p, hp, rfl⟩ := List.mem_map.mp hb
        cases (row _ ⟨p, hp, rfl⟩).symm.trans z
        exact hT p hp
      · cases (if_neg hb).symm.trans z
  | none =>
    generalize hHe : (fun b => if b = a then some (HO.frz { cls := .type "list", data := .seq vs.toArray } (.lst (ns.map V.int))) else if b ∈ cs.map (·.2) then some (.tbl #[]) else none : Hp) = He
    have atA : He a = some (.frz { cls := .type "list", data := .seq vs.toArray } (.lst (ns.map V.int))) := by rw [← hHe]; exact if_pos rfl
    have atT : ∀ p ∈ cs, He p.2 = some (.tbl #[]) := fun p hp => by
      rw [← hHe]
      exact (if_neg (apart p hp)).trans (if_pos (List.mem_map.mpr ⟨p, hp, rfl⟩))
    have else_ : ∀ b, b ≠ a → b ∉ cs.map (·.2) → He b = none := fun b h1 h2 => by
      rw [← hHe]
      exact (if_neg h1).trans (if_neg h2)
    have hS : SqL K He a (ns.map V.int) := .inl (.inr ⟨_, atA⟩)
    refine endGT He ⟨atT, fun b => ?_⟩ hS (fun b u z => ?_) KX G.T.g G.T.b G.T.builtins G.T.nolimit hg hT nT hC G.T.bmain ha hr hF hbind (hsp _ a ns hlen atT hS)
    · by_cases h1 : b = a
      · exact .inr (.inr ⟨h1, hk, _, _, h1 ▸ atA⟩)
      · by_cases h2 : b ∈ cs.map (·.2)
        · exact .inr (.inl (List.mem_map.mp h2))
        · exact .inl (else_ b h1 h2)
    · by_cases h1 : b = a
      · subst h1
        cases atA.symm.trans z
        exact ⟨ha, by rw [List.length_map]; exact hl, vs, _, rv, ha⟩
      · by_cases h2 : b ∈ cs.map (·.2)
        · obtain ⟨p, hp, rfl⟩ := List.mem_map.mp h2
          cases (atT p hp).symm.trans z
          exact hT p hp
        · cases (else_ b h1 h2).symm.trans z
end WG
set_option Elab.async false
set_option linter.all false
set_option maxRecDepth 100000
set_option maxHeartbeats 8000000
namespace WK
open PySem L2 PyProof.Rows LCX K1 FV DP LamX RM
open TX (sg sigs)
open PySem.W (Frag kitOne)
abbrev sMLet : Stmt := inClass (top 51) 1
abbrev sTMI : Stmt := inClass (top 10) 0
abbrev sINI : Stmt := inClass (top 9) 0
theorem scTMI : FnScope ["self", "limit"] ["self", "limit"] (defScope sTMI) := ⟨rfl, rfl, rfl, by decide +kernel, rfl, by decide +kernel, by decide +kernel⟩
theorem scINI : FnScope ["self", "value"] ["self", "value"] (defScope sINI) := ⟨rfl, rfl, rfl, by decide +kernel, rfl, by decide +kernel, by decide +kernel⟩
theorem ok_tmi {P : Program} {w : World} {K : Frag} {mg : Str → Option Value} {base : Heap} {cT f : Addr} {fd : FuncData} (F : Fun K "__init__" "TooMany.__init__" sTMI f fd) (T : WE.ErrT K cT) (M : WE.ErrI K cT f [.type "OverflowError", .type "ArithmeticError", .type "Exception", .type "BaseException", .type "object"] "OverflowError.__new__" "limit") : FnOk P w K mg base CX0 1 f fd ["self", "limit"] (WE.spErrI cT "limit") := by
  refine F.ok scTMI (fun vs H Q E h => ?_) (fun cdv A outer s H vs Q E hr h => ?_)
  · obtain ⟨a, v, rfl, _⟩ := h
    rfl
  · obtain ⟨a, v, rfl, ha, q⟩ := h
    refine ⟨_, pss_one (WE.ps_setE PySem.F.store_OverflowError T M (pv 0) (pv 1)), ?_⟩
    exact ⟨_, rfl, _, rfl, a, rfl, ha, fun dx hd hne => q dx hd hne⟩
theorem ok_ini {P : Program} {w : World} {K : Frag} {mg : Str → Option Value} {base : Heap} {cT f : Addr} {fd : FuncData} (F : Fun K "__init__" "InvalidNumber.__init__" sINI f fd) (T : WE.ErrT K cT) (M : WE.ErrI K cT f [.type "RuntimeError", .type "Exception", .type "BaseException", .type "object"] "RuntimeError.__new__" "value") : FnOk P w K mg base CX0 1 f fd ["self", "value"] (WE.spErrI cT "value") := by
  refine F.ok scINI (fun vs H Q E h => ?_) (fun cdv A outer s H vs Q E hr h => ?_)
  · obtain ⟨a, v, rfl, _⟩ := h
    rfl
  · obtain ⟨a, v, rfl, ha, q⟩ := h
    refine ⟨_, pss_one (WE.ps_setE PySem.F.store_RuntimeError T M (pv 0) (pv 1)), ?_⟩
    exact ⟨_, rfl, _, rfl, a, rfl, ha, fun dx hd hne => q dx hd hne⟩
theorem uniq_nd {T : List (Addr × Str)} (nd : (T.map (·.1)).Nodup) {P : Addr} {q : Str} (m : (P, q) ∈ T) : ∀ p ∈ T, p.1 = P → p.2 = q := by
  induction T with
  | nil => exact absurd m List.not_mem_nil
  | cons a T ih =>
    intro p hp e
    have nd := List.nodup_cons.mp nd
    rcases List.mem_cons.mp m with y | y
    · rcases List.mem_cons.mp hp with z | z
      · rw [z, ← y]
      · refine absurd (List.mem_map.mpr ⟨p, z, ?_⟩) nd.1
        rw [e, ← y]
    · rcases List.mem_cons.mp hp with z | z
      · refine absurd (List.mem_map.mpr ⟨_, y, ?_⟩) nd.1
        rw [← z]
        exact e.symm
      · exact ih nd.2 y p z e
theorem binds_four {K : Frag} {f T : Addr} {e : Value} {j : Option Addr} {u : Value} {m : Nat} {wv : Array (Option Value)} (lt : K.lookup T = some ⟨e, j, .seq #[u] m, wv⟩) {fd : FuncData} {a b c d : Str} (hd : fd.defaults = .ref T)
    (hb : ∀ x1 x2 x3 x4 : Value, ∃ k, bindArgs fd ⟨[x1, x2, x3, x4], []⟩ = seqItems? fd.defaults >>= k ∧ k (some #[u]) = pure [(a, x1), (b, x2), (c, x3), (d, x4)]) : L2.Binds K fd [a, b, c, d] [] := fun s us hin hl => by
  match us, hl with
  | [x1, x2, x3, x4], _ =>
    obtain ⟨k, h1, h2⟩ := hb x1 x2 x3 x4
    exact PySem.W.binds_K hin hd lt rfl h1 h2
theorem all_false {α : Type} [BEq α] [LawfulBEq α] {p : α → Option Bool} {l : List α} (h : (l.all fun t => p t == some false) = true) : ∀ t ∈ l, p t = some false := fun t ht => by simpa using List.all_eq_true.mp h t ht
theorem all_mk {l : PySem.W.OpenLaw} {w : World} {K : Frag} {h : Heap} {mg : Str → Option Value} {C cD CM fa DK cW cM cB cO cP cU cN cT oL PL oR PR oS PS oB PB oM PM oN PN pW pH pE pA pR pK pl pml t0 t50 f0 f1 f2 f3 f4 f5 f6 f7 f8 f9 f10 f11 f12 f13 f14 f15 f16 f17 f18 f19 f20 f21 f22 f23 f24 f25 f26 f27 f28 f29 f30 f31 f32 f33 f34 f35 f36 f37 f38 f39 f40 f41 f42 f43 f44 f45 f46 f47 f48 f49 f50 f51 f52 f53 f54 f55 f56 f57 f58 f59 f60 f61 f62 f63 f64 f65 f66 f67 : Addr} (X : K.In h) (G : h.Ns mainGlobals mg) (hfa : mg "law" = some (.ref fa))
    {rW rH rE rA rR rK rl rml : List Value} {xkw xMAX_MADE x_MAX_SIZE x_MAX_PIECES x_MAX_CAP x_MAX_MODULUS xMAX_LETTERS xMAX_PLACES xMAX_STATES xMAX_TIMES x_MOST_MACHINES : Tok} {e0 u0 e50 u50 : Value} {j0 j50 : Option Addr} {m0 m50 : Nat} {w0 w50 : Array (Option Value)} {od0 an0 od1 an1 od2 an2 od3 an3 od4 an4 od5 an5 od6 an6 od7 an7 od8 an8 od9 an9 od10 an10 od11 an11 od12 an12 od13 an13 od14 an14 od15 an15 od16 an16 od17 an17 od18 an18 od19 an19 od20 an20 od21 an21 od22 an22 od23 an23 od24 an24 od25 an25 od26 an26 od27 an27 od28 an28 od29 an29 od30 an30 od31 an31 od32 an32 od33 an33 od34 an34 od35 an35 od36 an36 od37 an37 od38 an38 od39 an39 od40 an40 od41 an41 od42 an42 od43 an43 od44 an44 od45 an45 od46 an46 od47 an47 od48 an48 od49 an49 od50 an50 od51 an51 od52 an52 od53 an53 od54 an54 od55 an55 od56 an56 od57 an57 od58 an58 od59 an59 od60 an60 od61 an61 od62 an62 od63 an63 od64 an64 od65 an65 od66 an66 od67 an67 : Option Addr} {sl0 sl1 sl2 sl3 sl4 sl5 sl6 sl7 sl8 sl9 sl10 sl11 sl12 sl13 sl14 sl15 sl16 sl17 sl18 sl19 sl20 sl21 sl22 sl23 sl24 sl25 sl26 sl27 sl28 sl29 sl30 sl31 sl32 sl33 sl34 sl35 sl36 sl37 sl38 sl39 sl40 sl41 sl42 sl43 sl44 sl45 sl46 sl47 sl48 sl49 sl50 sl51 sl52 sl53 sl54 sl55 sl56 sl57 sl58 sl59 sl60 sl61 sl62 sl63 sl64 sl65 sl66 sl67 : Array (Option Value)} {oc0 dc0 pm0 ct0 kV0 cd0 oc1 dc1 pm1 ct1 kV1 cd1 oc2 dc2 pm2 ct2 kV2 cd2 oc3 dc3 pm3 ct3 kV3 cd3 oc4 dc4 pm4 ct4 kV4 cd4 oc5 dc5 pm5 ct5 kV5 cd5 oc6 dc6 pm6 ct6 kV6 cd6 oc7 dc7 pm7 ct7 kV7 cd7 oc8 dc8 pm8 ct8 kV8 cd8 oc9 dc9 pm9 ct9 kV9 cd9 oc10 dc10 pm10 ct10 kV10 cd10 oc11 dc11 pm11 ct11 kV11 cd11 oc12 dc12 pm12 ct12 kV12 cd12 oc13 dc13 pm13 ct13 kV13 cd13 oc14 dc14 pm14 ct14 kV14 cd14 oc15 dc15 pm15 ct15 kV15 cd15 oc16 dc16 pm16 ct16 kV16 cd16 oc17 dc17 pm17 ct17 kV17 cd17 oc18 dc18 pm18 ct18 kV18 oc19 dc19 pm19 ct19 kV19 cd19 oc20 dc20 pm20 ct20 kV20 cd20 oc21 dc21 pm21 ct21 kV21 cd21 oc22 dc22 pm22 ct22 kV22 cd22 oc23 dc23 pm23 ct23 kV23 cd23 oc24 dc24 pm24 ct24 kV24 cd24 oc25 dc25 pm25 ct25 kV25 cd25 oc26 dc26 pm26 ct26 kV26 cd26 oc27 dc27 pm27 ct27 kV27 cd27 oc28 dc28 pm28 ct28 kV28 cd28 oc29 dc29 pm29 ct29 kV29 cd29 oc30 dc30 pm30 ct30 kV30 cd30 oc31 dc31 pm31 ct31 kV31 cd31 oc32 dc32 pm32 ct32 kV32 cd32 oc33 dc33 pm33 ct33 kV33 cd33 oc34 dc34 pm34 ct34 kV34 cd34 oc35 dc35 pm35 ct35 kV35 cd35 oc36 dc36 pm36 ct36 kV36 cd36 oc37 dc37 pm37 ct37 kV37 cd37 oc38 dc38 pm38 ct38 kV38 cd38 oc39 dc39 pm39 ct39 kV39 cd39 oc40 dc40 pm40 ct40 kV40 cd40 oc41 dc41 pm41 ct41 kV41 cd41 oc42 dc42 pm42 ct42 kV42 cd42 oc43 dc43 pm43 ct43 kV43 oc44 dc44 pm44 ct44 kV44 oc45 dc45 pm45 ct45 kV45 oc46 dc46 pm46 ct46 kV46 oc47 dc47 pm47 ct47 kV47 oc48 dc48 pm48 ct48 kV48 cd48 oc49 dc49 pm49 ct49 kV49 cd49 oc50 dc50 pm50 ct50 kV50 cd50 oc51 dc51 pm51 ct51 kV51 cd51 oc52 dc52 pm52 ct52 kV52 cd52 oc53 dc53 pm53 ct53 kV53 cd53 oc54 dc54 pm54 ct54 kV54 cd54 oc55 dc55 pm55 ct55 kV55 cd55 oc56 dc56 pm56 ct56 kV56 cd56 oc57 dc57 pm57 ct57 kV57 cd57 oc58 dc58 pm58 ct58 kV58 cd58 oc59 dc59 pm59 ct59 kV59 cd59 oc60 dc60 pm60 ct60 kV60 cd60 oc61 dc61 pm61 ct61 kV61 cd61 oc62 dc62 pm62 ct62 cd62 oc63 dc63 pm63 ct63 kV63 cd63 oc64 dc64 pm64 ct64 kV64 cd64 oc65 dc65 pm65 ct65 kV65 cd65 oc66 dc66 pm66 ct66 kV66 cd66 oc67 dc67 pm67 ct67 kV67 cd67 : Value}
    (gb : PySem.W.nsIn K mainGlobals "Box" = some (some (.ref C)))
    (gd : PySem.W.nsIn K mainGlobals "Made" = some (some (.ref cD)))
    (gm : PySem.W.nsIn K mainGlobals "Machine" = some (some (.ref CM)))
    (geW : PySem.W.nsIn K mainGlobals "InvalidWord" = some (some (.ref cW)))
    (geM : PySem.W.nsIn K mainGlobals "InvalidMachine" = some (some (.ref cM)))
    (geB : PySem.W.nsIn K mainGlobals "InvalidBox" = some (some (.ref cB)))
    (geO : PySem.W.nsIn K mainGlobals "InvalidOperation" = some (some (.ref cO)))
    (geP : PySem.W.nsIn K mainGlobals "ParseError" = some (some (.ref cP)))
    (geU : PySem.W.nsIn K mainGlobals "UnknownName" = some (some (.ref cU)))
    (geN : PySem.W.nsIn K mainGlobals "InvalidNumber" = some (some (.ref cN)))
    (geT : PySem.W.nsIn K mainGlobals "TooMany" = some (some (.ref cT)))
    (pgb : PySem.W.plainGet K C Str.empty = true)
    (hdb : PySem.W.hasDictIn K C = true)
    (pob : PySem.W.plainOver K C = true)
    (sab : PySem.W.findIn K (.ref C) "__setattr__" = some (some (.builtin "object.__setattr__")))
    (ccb : PySem.W.findIn K (.ref C) "__class__" = some (some (.builtin "object.__class__")))
    (obb : PySem.W.mroIn K C (.type "object") = some true)
    (mkb : PySem.W.makesIn K C = true)
    (kCb : PySem.W.keepIn K (.ref C) = true)
    (ib : PySem.W.findIn K (.ref C) "__init__" = some (some (.ref f49)))
    (nib : PySem.W.isFn K (.ref f49) = true)
    (ncb : (tyNames.all fun t => kitOne K (.type t) (.ref C) == some false) = true)
    (pgd : PySem.W.plainGet K cD Str.empty = true)
    (hdd : PySem.W.hasDictIn K cD = true)
    (pod : PySem.W.plainOver K cD = true)
    (sad : PySem.W.findIn K (.ref cD) "__setattr__" = some (some (.builtin "object.__setattr__")))
    (ccd : PySem.W.findIn K (.ref cD) "__class__" = some (some (.builtin "object.__class__")))
    (obd : PySem.W.mroIn K cD (.type "object") = some true)
    (mkd : PySem.W.makesIn K cD = true)
    (kCd : PySem.W.keepIn K (.ref cD) = true)
    (id : PySem.W.findIn K (.ref cD) "__init__" = some (some (.ref f48)))
    (nid : PySem.W.isFn K (.ref f48) = true)
    (ncd : (tyNames.all fun t => kitOne K (.type t) (.ref cD) == some false) = true)
    (pgm : PySem.W.plainGet K CM Str.empty = true)
    (hdm : PySem.W.hasDictIn K CM = true)
    (pom : PySem.W.plainOver K CM = true)
    (sam : PySem.W.findIn K (.ref CM) "__setattr__" = some (some (.builtin "object.__setattr__")))
    (ccm : PySem.W.findIn K (.ref CM) "__class__" = some (some (.builtin "object.__class__")))
    (obm : PySem.W.mroIn K CM (.type "object") = some true)
    (mkm : PySem.W.makesIn K CM = true)
    (kCm : PySem.W.keepIn K (.ref CM) = true)
    (im : PySem.W.findIn K (.ref CM) "__init__" = some (some (.ref f50)))
    (nim : PySem.W.isFn K (.ref f50) = true)
    (ncm : (tyNames.all fun t => kitOne K (.type t) (.ref CM) == some false) = true)
    (cn : PySem.W.specialIn K (.builtin "object.__class__") "__get__" = some (some (.builtin "getset_descriptor.__get__")))
    (ct : PySem.W.takesIn K (.builtin "object.__class__") = some true)
    (nT : PySem.W.findIn K (.ref C) "_table" = some none)
    (nL : PySem.W.findIn K (.ref C) "_letters" = some none)
    (nR : PySem.W.findIn K (.ref cD) "rows" = some none)
    (nMT : PySem.W.findIn K (.ref CM) "_table" = some none)
    (nML : PySem.W.findIn K (.ref CM) "_letters" = some none)
    (nME : PySem.W.findIn K (.ref CM) "_ends" = some none)
    (rd : PySem.W.readsIn K C (.type "type") = true)
    (ga : PySem.W.specialIn K (.ref C) "__getattribute__" = some (some (.builtin "type.__getattribute__")))
    (cmW : PySem.W.findCls K (.ref C) (.type "type") "window" = some (PySem.W.CFound.get (.builtin "classmethod.__get__") (.ref pW) .none (.ref C)))
    (crW : PySem.W.recIn K pW "classmethod" = some (.ref f53 :: rW))
    (cfW : PySem.W.fnIn K f53 = true)
    (cmH : PySem.W.findCls K (.ref C) (.type "type") "heads" = some (PySem.W.CFound.get (.builtin "classmethod.__get__") (.ref pH) .none (.ref C)))
    (crH : PySem.W.recIn K pH "classmethod" = some (.ref f54 :: rH))
    (cfH : PySem.W.fnIn K f54 = true)
    (cmE : PySem.W.findCls K (.ref C) (.type "type") "pieces" = some (PySem.W.CFound.get (.builtin "classmethod.__get__") (.ref pE) .none (.ref C)))
    (crE : PySem.W.recIn K pE "classmethod" = some (.ref f55 :: rE))
    (cfE : PySem.W.fnIn K f55 = true)
    (cmA : PySem.W.findCls K (.ref C) (.type "type") "caps" = some (PySem.W.CFound.get (.builtin "classmethod.__get__") (.ref pA) .none (.ref C)))
    (crA : PySem.W.recIn K pA "classmethod" = some (.ref f56 :: rA))
    (cfA : PySem.W.fnIn K f56 = true)
    (cmR : PySem.W.findCls K (.ref C) (.type "type") "rests" = some (PySem.W.CFound.get (.builtin "classmethod.__get__") (.ref pR) .none (.ref C)))
    (crR : PySem.W.recIn K pR "classmethod" = some (.ref f57 :: rR))
    (cfR : PySem.W.fnIn K f57 = true)
    (cmK : PySem.W.findCls K (.ref C) (.type "type") "clerk" = some (PySem.W.CFound.get (.builtin "classmethod.__get__") (.ref pK) .none (.ref C)))
    (crK : PySem.W.recIn K pK "classmethod" = some (.ref f58 :: rK))
    (cfK : PySem.W.fnIn K f58 = true)
    (pal : PySem.W.findIn K (.ref C) "letters" = some (some (.ref pl)))
    (pg_l : PySem.W.specialIn K (.ref pl) "__get__" = some (some (.builtin "property.__get__")))
    (pt_l : PySem.W.takesIn K (.ref pl) = some true)
    (pr_l : PySem.W.recIn K pl "property" = some (.ref f59 :: rl))
    (paml : PySem.W.findIn K (.ref CM) "letters" = some (some (.ref pml)))
    (pg_ml : PySem.W.specialIn K (.ref pml) "__get__" = some (some (.builtin "property.__get__")))
    (pt_ml : PySem.W.takesIn K (.ref pml) = some true)
    (pr_ml : PySem.W.recIn K pml "property" = some (.ref f60 :: rml))
    (a61 : PySem.W.findIn K (.ref C) "__call__" = some (some (.ref f61)))
    (n61 : PySem.W.isFn K (.ref f61) = true)
    (a62 : PySem.W.findIn K (.ref C) "place" = some (some (.ref f62)))
    (n62 : PySem.W.isFn K (.ref f62) = true)
    (a63 : PySem.W.findIn K (.ref C) "action" = some (some (.ref f63)))
    (n63 : PySem.W.isFn K (.ref f63) = true)
    (a64 : PySem.W.findIn K (.ref C) "first_word" = some (some (.ref f64)))
    (n64 : PySem.W.isFn K (.ref f64) = true)
    (a65 : PySem.W.findIn K (.ref C) "machine" = some (some (.ref f65)))
    (n65 : PySem.W.isFn K (.ref f65) = true)
    (a66 : PySem.W.findIn K (.ref C) "__and__" = some (some (.ref f66)))
    (n66 : PySem.W.isFn K (.ref f66) = true)
    (a67 : PySem.W.findIn K (.ref C) "__len__" = some (some (.ref f67)))
    (n67 : PySem.W.isFn K (.ref f67) = true)
    (fiC : PySem.W.fnIn K f61 = true)
    (sf : PySem.W.selfFirst K C = true)
    (nor : PySem.W.findIn K (.ref C) (dunderR "and") = some none)
    (sub : (tyNames.all fun t => PySem.W.subIn K (.type t) (.ref C) == some false) = true)
    (ki : kitOne K (.ref C) (.ref C) = some true)
    (kim : kitOne K (.ref CM) (.ref CM) = some true)
    (kitD : (plainTys.all fun t => kitOne K (.type t) (.ref cD) == some false) = true)
    (kt : kitOne K (.type "tuple") (.ref cD) = some false)
    (xeW : PySem.W.excIn K cW [.type "ValueError", .type "Exception", .type "BaseException", .type "object"] "ValueError.__new__" = true)
    (keW : PySem.W.keepIn K (.ref cW) = true)
    (beW : PySem.W.subIn K (.ref cW) (.type "BaseException") = some true)
    (teW : PySem.W.typeIn K (.ref cW) = some (.type "type"))
    (xeM : PySem.W.excIn K cM [.type "ValueError", .type "Exception", .type "BaseException", .type "object"] "ValueError.__new__" = true)
    (keM : PySem.W.keepIn K (.ref cM) = true)
    (beM : PySem.W.subIn K (.ref cM) (.type "BaseException") = some true)
    (teM : PySem.W.typeIn K (.ref cM) = some (.type "type"))
    (xeB : PySem.W.excIn K cB [.type "ValueError", .type "Exception", .type "BaseException", .type "object"] "ValueError.__new__" = true)
    (keB : PySem.W.keepIn K (.ref cB) = true)
    (beB : PySem.W.subIn K (.ref cB) (.type "BaseException") = some true)
    (teB : PySem.W.typeIn K (.ref cB) = some (.type "type"))
    (xeO : PySem.W.excIn K cO [.type "ValueError", .type "Exception", .type "BaseException", .type "object"] "ValueError.__new__" = true)
    (keO : PySem.W.keepIn K (.ref cO) = true)
    (beO : PySem.W.subIn K (.ref cO) (.type "BaseException") = some true)
    (teO : PySem.W.typeIn K (.ref cO) = some (.type "type"))
    (ebN : WE.errB K cN = true)
    (ieN : PySem.W.findIn K (.ref cN) "__init__" = some (some (.ref f52)))
    (eiN : WE.errI K cN f52 [.type "RuntimeError", .type "Exception", .type "BaseException", .type "object"] "RuntimeError.__new__" "value" = true)
    (teN : PySem.W.typeIn K (.ref cN) = some (.type "type"))
    (noN : PySem.W.findIn K (.ref cN) "value" = some none)
    (ebT : WE.errB K cT = true)
    (ieT : PySem.W.findIn K (.ref cT) "__init__" = some (some (.ref f51)))
    (eiT : WE.errI K cT f51 [.type "OverflowError", .type "ArithmeticError", .type "Exception", .type "BaseException", .type "object"] "OverflowError.__new__" "limit" = true)
    (teT : PySem.W.typeIn K (.ref cT) = some (.type "type"))
    (noT : PySem.W.findIn K (.ref cT) "limit" = some none)
    (x_ww : PySem.W.exmOne K (.ref cW) (.ref cW) = some true)
    (x_mw : PySem.W.exmOne K (.ref cM) (.ref cW) = some false)
    (x_mm : PySem.W.exmOne K (.ref cM) (.ref cM) = some true)
    (x_bw : PySem.W.exmOne K (.ref cB) (.ref cW) = some false)
    (x_bm : PySem.W.exmOne K (.ref cB) (.ref cM) = some false)
    (x_bb : PySem.W.exmOne K (.ref cB) (.ref cB) = some true)
    (x_ow : PySem.W.exmOne K (.ref cO) (.ref cW) = some false)
    (x_om : PySem.W.exmOne K (.ref cO) (.ref cM) = some false)
    (x_ob : PySem.W.exmOne K (.ref cO) (.ref cB) = some false)
    (x_oo : PySem.W.exmOne K (.ref cO) (.ref cO) = some true)
    (x_nw : PySem.W.exmOne K (.ref cN) (.ref cW) = some false)
    (x_nm : PySem.W.exmOne K (.ref cN) (.ref cM) = some false)
    (x_nb : PySem.W.exmOne K (.ref cN) (.ref cB) = some false)
    (x_no : PySem.W.exmOne K (.ref cN) (.ref cO) = some false)
    (x_np : PySem.W.exmOne K (.ref cN) (.ref cP) = some false)
    (x_nu : PySem.W.exmOne K (.ref cN) (.ref cU) = some false)
    (x_nn : PySem.W.exmOne K (.ref cN) (.ref cN) = some true)
    (x_tw : PySem.W.exmOne K (.ref cT) (.ref cW) = some false)
    (x_tm : PySem.W.exmOne K (.ref cT) (.ref cM) = some false)
    (x_tb : PySem.W.exmOne K (.ref cT) (.ref cB) = some false)
    (x_to : PySem.W.exmOne K (.ref cT) (.ref cO) = some false)
    (x_tp : PySem.W.exmOne K (.ref cT) (.ref cP) = some false)
    (x_tu : PySem.W.exmOne K (.ref cT) (.ref cU) = some false)
    (x_tn : PySem.W.exmOne K (.ref cT) (.ref cN) = some false)
    (x_tt : PySem.W.exmOne K (.ref cT) (.ref cT) = some true)
    (d0 : PySem.W.nsIn K mainGlobals "explored" = some (some (.ref f0)))
    (l0 : K.lookup f0 = some ⟨oc0, od0, .func (PySem.W.fnOf "explored" "explored" (defArgs sExpl) (defBody sExpl) (defScope sExpl) (.ref t0) kV0 dc0 pm0 an0 cd0 ct0), sl0⟩)
    (q0 : PySem.W.codeIn K cd0 "explored" = true)
    (k0 : PySem.W.keepIn K (.ref f0) = true)
    (d1 : PySem.W.nsIn K mainGlobals "is_integer" = some (some (.ref f1)))
    (l1 : K.lookup f1 = some ⟨oc1, od1, .func (PySem.W.fnOf "is_integer" "is_integer" (defArgs sIsInt) (defBody sIsInt) (defScope sIsInt) .none kV1 dc1 pm1 an1 cd1 ct1), sl1⟩)
    (q1 : PySem.W.codeIn K cd1 "is_integer" = true)
    (k1 : PySem.W.keepIn K (.ref f1) = true)
    (d2 : PySem.W.nsIn K mainGlobals "is_number" = some (some (.ref f2)))
    (l2 : K.lookup f2 = some ⟨oc2, od2, .func (PySem.W.fnOf "is_number" "is_number" (defArgs sIsNum) (defBody sIsNum) (defScope sIsNum) .none kV2 dc2 pm2 an2 cd2 ct2), sl2⟩)
    (q2 : PySem.W.codeIn K cd2 "is_number" = true)
    (k2 : PySem.W.keepIn K (.ref f2) = true)
    (d3 : PySem.W.nsIn K mainGlobals "need_number" = some (some (.ref f3)))
    (l3 : K.lookup f3 = some ⟨oc3, od3, .func (PySem.W.fnOf "need_number" "need_number" (defArgs sNeedNum) (defBody sNeedNum) (defScope sNeedNum) .none kV3 dc3 pm3 an3 cd3 ct3), sl3⟩)
    (q3 : PySem.W.codeIn K cd3 "need_number" = true)
    (k3 : PySem.W.keepIn K (.ref f3) = true)
    (d4 : PySem.W.nsIn K mainGlobals "ascends" = some (some (.ref f4)))
    (l4 : K.lookup f4 = some ⟨oc4, od4, .func (PySem.W.fnOf "ascends" "ascends" (defArgs sAsc) (defBody sAsc) (defScope sAsc) .none kV4 dc4 pm4 an4 cd4 ct4), sl4⟩)
    (q4 : PySem.W.codeIn K cd4 "ascends" = true)
    (k4 : PySem.W.keepIn K (.ref f4) = true)
    (d5 : PySem.W.nsIn K mainGlobals "is_ascending" = some (some (.ref f5)))
    (l5 : K.lookup f5 = some ⟨oc5, od5, .func (PySem.W.fnOf "is_ascending" "is_ascending" (defArgs sIsAsc) (defBody sIsAsc) (defScope sIsAsc) .none kV5 dc5 pm5 an5 cd5 ct5), sl5⟩)
    (q5 : PySem.W.codeIn K cd5 "is_ascending" = true)
    (k5 : PySem.W.keepIn K (.ref f5) = true)
    (d6 : PySem.W.nsIn K mainGlobals "is_table" = some (some (.ref f6)))
    (l6 : K.lookup f6 = some ⟨oc6, od6, .func (PySem.W.fnOf "is_table" "is_table" (defArgs sIsTab) (defBody sIsTab) (defScope sIsTab) .none kV6 dc6 pm6 an6 cd6 ct6), sl6⟩)
    (q6 : PySem.W.codeIn K cd6 "is_table" = true)
    (k6 : PySem.W.keepIn K (.ref f6) = true)
    (d7 : PySem.W.nsIn K mainGlobals "_is_row" = some (some (.ref f7)))
    (l7 : K.lookup f7 = some ⟨oc7, od7, .func (PySem.W.fnOf "_is_row" "_is_row" (defArgs sIsRow) (defBody sIsRow) (defScope sIsRow) .none kV7 dc7 pm7 an7 cd7 ct7), sl7⟩)
    (q7 : PySem.W.codeIn K cd7 "_is_row" = true)
    (k7 : PySem.W.keepIn K (.ref f7) = true)
    (d8 : PySem.W.nsIn K mainGlobals "is_letters" = some (some (.ref f8)))
    (l8 : K.lookup f8 = some ⟨oc8, od8, .func (PySem.W.fnOf "is_letters" "is_letters" (defArgs sIsLet) (defBody sIsLet) (defScope sIsLet) .none kV8 dc8 pm8 an8 cd8 ct8), sl8⟩)
    (q8 : PySem.W.codeIn K cd8 "is_letters" = true)
    (k8 : PySem.W.keepIn K (.ref f8) = true)
    (d9 : PySem.W.nsIn K mainGlobals "is_word" = some (some (.ref f9)))
    (l9 : K.lookup f9 = some ⟨oc9, od9, .func (PySem.W.fnOf "is_word" "is_word" (defArgs sIsWord) (defBody sIsWord) (defScope sIsWord) .none kV9 dc9 pm9 an9 cd9 ct9), sl9⟩)
    (q9 : PySem.W.codeIn K cd9 "is_word" = true)
    (k9 : PySem.W.keepIn K (.ref f9) = true)
    (d10 : PySem.W.nsIn K mainGlobals "is_over" = some (some (.ref f10)))
    (l10 : K.lookup f10 = some ⟨oc10, od10, .func (PySem.W.fnOf "is_over" "is_over" (defArgs sIsOver) (defBody sIsOver) (defScope sIsOver) .none kV10 dc10 pm10 an10 cd10 ct10), sl10⟩)
    (q10 : PySem.W.codeIn K cd10 "is_over" = true)
    (k10 : PySem.W.keepIn K (.ref f10) = true)
    (d11 : PySem.W.nsIn K mainGlobals "need_letters" = some (some (.ref f11)))
    (l11 : K.lookup f11 = some ⟨oc11, od11, .func (PySem.W.fnOf "need_letters" "need_letters" (defArgs sNeedLet) (defBody sNeedLet) (defScope sNeedLet) .none kV11 dc11 pm11 an11 cd11 ct11), sl11⟩)
    (q11 : PySem.W.codeIn K cd11 "need_letters" = true)
    (k11 : PySem.W.keepIn K (.ref f11) = true)
    (d12 : PySem.W.nsIn K mainGlobals "need_word" = some (some (.ref f12)))
    (l12 : K.lookup f12 = some ⟨oc12, od12, .func (PySem.W.fnOf "need_word" "need_word" (defArgs sNeedWord) (defBody sNeedWord) (defScope sNeedWord) .none kV12 dc12 pm12 an12 cd12 ct12), sl12⟩)
    (q12 : PySem.W.codeIn K cd12 "need_word" = true)
    (k12 : PySem.W.keepIn K (.ref f12) = true)
    (d13 : PySem.W.nsIn K mainGlobals "need_over" = some (some (.ref f13)))
    (l13 : K.lookup f13 = some ⟨oc13, od13, .func (PySem.W.fnOf "need_over" "need_over" (defArgs sNeedOver) (defBody sNeedOver) (defScope sNeedOver) .none kV13 dc13 pm13 an13 cd13 ct13), sl13⟩)
    (q13 : PySem.W.codeIn K cd13 "need_over" = true)
    (k13 : PySem.W.keepIn K (.ref f13) = true)
    (d14 : PySem.W.nsIn K mainGlobals "need_machines" = some (some (.ref f14)))
    (l14 : K.lookup f14 = some ⟨oc14, od14, .func (PySem.W.fnOf "need_machines" "need_machines" (defArgs sNeedMs) (defBody sNeedMs) (defScope sNeedMs) .none kV14 dc14 pm14 an14 cd14 ct14), sl14⟩)
    (q14 : PySem.W.codeIn K cd14 "need_machines" = true)
    (k14 : PySem.W.keepIn K (.ref f14) = true)
    (d15 : PySem.W.nsIn K mainGlobals "need_same_letters" = some (some (.ref f15)))
    (l15 : K.lookup f15 = some ⟨oc15, od15, .func (PySem.W.fnOf "need_same_letters" "need_same_letters" (defArgs sSame) (defBody sSame) (defScope sSame) .none kV15 dc15 pm15 an15 cd15 ct15), sl15⟩)
    (q15 : PySem.W.codeIn K cd15 "need_same_letters" = true)
    (k15 : PySem.W.keepIn K (.ref f15) = true)
    (d16 : PySem.W.nsIn K mainGlobals "need_box" = some (some (.ref f16)))
    (l16 : K.lookup f16 = some ⟨oc16, od16, .func (PySem.W.fnOf "need_box" "need_box" (defArgs sNeedBox) (defBody sNeedBox) (defScope sNeedBox) .none kV16 dc16 pm16 an16 cd16 ct16), sl16⟩)
    (q16 : PySem.W.codeIn K cd16 "need_box" = true)
    (k16 : PySem.W.keepIn K (.ref f16) = true)
    (d17 : PySem.W.nsIn K mainGlobals "_grown" = some (some (.ref f17)))
    (l17 : K.lookup f17 = some ⟨oc17, od17, .func (PySem.W.fnOf "_grown" "_grown" (defArgs sGrown) (defBody sGrown) (defScope sGrown) .none kV17 dc17 pm17 an17 cd17 ct17), sl17⟩)
    (q17 : PySem.W.codeIn K cd17 "_grown" = true)
    (k17 : PySem.W.keepIn K (.ref f17) = true)
    (d18 : PySem.W.nsIn K mainGlobals "_counting" = some (some (.ref f18)))
    (l18 : K.lookup f18 = some ⟨oc18, od18, .func (PySem.W.fnOf "_counting" "_counting" (defArgs sCount) (defBody sCount) (defScope sCount) .none kV18 dc18 pm18 an18 (.ref oN) ct18), sl18⟩)
    (q18 : PySem.W.codeIn K (.ref oN) "_counting" = true)
    (k18 : PySem.W.keepIn K (.ref f18) = true)
    (d19 : PySem.W.nsIn K mainGlobals "_one_more" = some (some (.ref f19)))
    (l19 : K.lookup f19 = some ⟨oc19, od19, .func (PySem.W.fnOf "_one_more" "_one_more" (defArgs sOneM) (defBody sOneM) (defScope sOneM) .none kV19 dc19 pm19 an19 cd19 ct19), sl19⟩)
    (q19 : PySem.W.codeIn K cd19 "_one_more" = true)
    (k19 : PySem.W.keepIn K (.ref f19) = true)
    (d20 : PySem.W.nsIn K mainGlobals "places" = some (some (.ref f20)))
    (l20 : K.lookup f20 = some ⟨oc20, od20, .func (PySem.W.fnOf "places" "places" (defArgs sPlaces) (defBody sPlaces) (defScope sPlaces) .none kV20 dc20 pm20 an20 cd20 ct20), sl20⟩)
    (q20 : PySem.W.codeIn K cd20 "places" = true)
    (k20 : PySem.W.keepIn K (.ref f20) = true)
    (d21 : PySem.W.nsIn K mainGlobals "word_to" = some (some (.ref f21)))
    (l21 : K.lookup f21 = some ⟨oc21, od21, .func (PySem.W.fnOf "word_to" "word_to" (defArgs sWordTo) (defBody sWordTo) (defScope sWordTo) .none kV21 dc21 pm21 an21 cd21 ct21), sl21⟩)
    (q21 : PySem.W.codeIn K cd21 "word_to" = true)
    (k21 : PySem.W.keepIn K (.ref f21) = true)
    (d22 : PySem.W.nsIn K mainGlobals "tells_apart" = some (some (.ref f22)))
    (l22 : K.lookup f22 = some ⟨oc22, od22, .func (PySem.W.fnOf "tells_apart" "tells_apart" (defArgs sTells) (defBody sTells) (defScope sTells) .none kV22 dc22 pm22 an22 cd22 ct22), sl22⟩)
    (q22 : PySem.W.codeIn K cd22 "tells_apart" = true)
    (k22 : PySem.W.keepIn K (.ref f22) = true)
    (d23 : PySem.W.nsIn K mainGlobals "alike_pair" = some (some (.ref f23)))
    (l23 : K.lookup f23 = some ⟨oc23, od23, .func (PySem.W.fnOf "alike_pair" "alike_pair" (defArgs sAlikeP) (defBody sAlikeP) (defScope sAlikeP) .none kV23 dc23 pm23 an23 cd23 ct23), sl23⟩)
    (q23 : PySem.W.codeIn K cd23 "alike_pair" = true)
    (k23 : PySem.W.keepIn K (.ref f23) = true)
    (d24 : PySem.W.nsIn K mainGlobals "is_alike_pair" = some (some (.ref f24)))
    (l24 : K.lookup f24 = some ⟨oc24, od24, .func (PySem.W.fnOf "is_alike_pair" "is_alike_pair" (defArgs sIsAlikeP) (defBody sIsAlikeP) (defScope sIsAlikeP) .none kV24 dc24 pm24 an24 cd24 ct24), sl24⟩)
    (q24 : PySem.W.codeIn K cd24 "is_alike_pair" = true)
    (k24 : PySem.W.keepIn K (.ref f24) = true)
    (d25 : PySem.W.nsIn K mainGlobals "is_seen" = some (some (.ref f25)))
    (l25 : K.lookup f25 = some ⟨oc25, od25, .func (PySem.W.fnOf "is_seen" "is_seen" (defArgs sIsSeen) (defBody sIsSeen) (defScope sIsSeen) .none kV25 dc25 pm25 an25 cd25 ct25), sl25⟩)
    (q25 : PySem.W.codeIn K cd25 "is_seen" = true)
    (k25 : PySem.W.keepIn K (.ref f25) = true)
    (d26 : PySem.W.nsIn K mainGlobals "apart_paper" = some (some (.ref f26)))
    (l26 : K.lookup f26 = some ⟨oc26, od26, .func (PySem.W.fnOf "apart_paper" "apart_paper" (defArgs sApartP) (defBody sApartP) (defScope sApartP) .none kV26 dc26 pm26 an26 cd26 ct26), sl26⟩)
    (q26 : PySem.W.codeIn K cd26 "apart_paper" = true)
    (k26 : PySem.W.keepIn K (.ref f26) = true)
    (d27 : PySem.W.nsIn K mainGlobals "is_apart_paper" = some (some (.ref f27)))
    (l27 : K.lookup f27 = some ⟨oc27, od27, .func (PySem.W.fnOf "is_apart_paper" "is_apart_paper" (defArgs sIsApartP) (defBody sIsApartP) (defScope sIsApartP) .none kV27 dc27 pm27 an27 cd27 ct27), sl27⟩)
    (q27 : PySem.W.codeIn K cd27 "is_apart_paper" = true)
    (k27 : PySem.W.keepIn K (.ref f27) = true)
    (d28 : PySem.W.nsIn K mainGlobals "guesses_of" = some (some (.ref f28)))
    (l28 : K.lookup f28 = some ⟨oc28, od28, .func (PySem.W.fnOf "guesses_of" "guesses_of" (defArgs sGuesses) (defBody sGuesses) (defScope sGuesses) .none kV28 dc28 pm28 an28 cd28 ct28), sl28⟩)
    (q28 : PySem.W.codeIn K cd28 "guesses_of" = true)
    (k28 : PySem.W.keepIn K (.ref f28) = true)
    (d29 : PySem.W.nsIn K mainGlobals "box_groups" = some (some (.ref f29)))
    (l29 : K.lookup f29 = some ⟨oc29, od29, .func (PySem.W.fnOf "box_groups" "box_groups" (defArgs sBGroups) (defBody sBGroups) (defScope sBGroups) .none kV29 dc29 pm29 an29 cd29 ct29), sl29⟩)
    (q29 : PySem.W.codeIn K cd29 "box_groups" = true)
    (k29 : PySem.W.keepIn K (.ref f29) = true)
    (d30 : PySem.W.nsIn K mainGlobals "_need" = some (some (.ref f30)))
    (l30 : K.lookup f30 = some ⟨oc30, od30, .func (PySem.W.fnOf "_need" "_need" (defArgs sNeedAll) (defBody sNeedAll) (defScope sNeedAll) .none kV30 dc30 pm30 an30 cd30 ct30), sl30⟩)
    (q30 : PySem.W.codeIn K cd30 "_need" = true)
    (k30 : PySem.W.keepIn K (.ref f30) = true)
    (d31 : PySem.W.nsIn K mainGlobals "_need_letters" = some (some (.ref f31)))
    (l31 : K.lookup f31 = some ⟨oc31, od31, .func (PySem.W.fnOf "_need_letters" "_need_letters" (defArgs sNeedLs) (defBody sNeedLs) (defScope sNeedLs) .none kV31 dc31 pm31 an31 cd31 ct31), sl31⟩)
    (q31 : PySem.W.codeIn K cd31 "_need_letters" = true)
    (k31 : PySem.W.keepIn K (.ref f31) = true)
    (d32 : PySem.W.nsIn K mainGlobals "_need_some" = some (some (.ref f32)))
    (l32 : K.lookup f32 = some ⟨oc32, od32, .func (PySem.W.fnOf "_need_some" "_need_some" (defArgs sNeedSome) (defBody sNeedSome) (defScope sNeedSome) .none kV32 dc32 pm32 an32 cd32 ct32), sl32⟩)
    (q32 : PySem.W.codeIn K cd32 "_need_some" = true)
    (k32 : PySem.W.keepIn K (.ref f32) = true)
    (d33 : PySem.W.nsIn K mainGlobals "_law_dice" = some (some (.ref f33)))
    (l33 : K.lookup f33 = some ⟨oc33, od33, .func (PySem.W.fnOf "_law_dice" "_law_dice" (defArgs sDice) (defBody sDice) (defScope sDice) .none kV33 dc33 pm33 an33 cd33 ct33), sl33⟩)
    (q33 : PySem.W.codeIn K cd33 "_law_dice" = true)
    (k33 : PySem.W.keepIn K (.ref f33) = true)
    (d34 : PySem.W.nsIn K mainGlobals "_law_roll" = some (some (.ref f34)))
    (l34 : K.lookup f34 = some ⟨oc34, od34, .func (PySem.W.fnOf "_law_roll" "_law_roll" (defArgs sRoll) (defBody sRoll) (defScope sRoll) .none kV34 dc34 pm34 an34 cd34 ct34), sl34⟩)
    (q34 : PySem.W.codeIn K cd34 "_law_roll" = true)
    (k34 : PySem.W.keepIn K (.ref f34) = true)
    (d35 : PySem.W.nsIn K mainGlobals "_law_one_of" = some (some (.ref f35)))
    (l35 : K.lookup f35 = some ⟨oc35, od35, .func (PySem.W.fnOf "_law_one_of" "_law_one_of" (defArgs sOne) (defBody sOne) (defScope sOne) .none kV35 dc35 pm35 an35 cd35 ct35), sl35⟩)
    (q35 : PySem.W.codeIn K cd35 "_law_one_of" = true)
    (k35 : PySem.W.keepIn K (.ref f35) = true)
    (d36 : PySem.W.nsIn K mainGlobals "_law_action" = some (some (.ref f36)))
    (l36 : K.lookup f36 = some ⟨oc36, od36, .func (PySem.W.fnOf "_law_action" "_law_action" (defArgs sAct) (defBody sAct) (defScope sAct) .none kV36 dc36 pm36 an36 cd36 ct36), sl36⟩)
    (q36 : PySem.W.codeIn K cd36 "_law_action" = true)
    (k36 : PySem.W.keepIn K (.ref f36) = true)
    (d37 : PySem.W.nsIn K mainGlobals "_law_table" = some (some (.ref f37)))
    (l37 : K.lookup f37 = some ⟨oc37, od37, .func (PySem.W.fnOf "_law_table" "_law_table" (defArgs sLTab) (defBody sLTab) (defScope sLTab) .none kV37 dc37 pm37 an37 cd37 ct37), sl37⟩)
    (q37 : PySem.W.codeIn K cd37 "_law_table" = true)
    (k37 : PySem.W.keepIn K (.ref f37) = true)
    (d38 : PySem.W.nsIn K mainGlobals "_law_machine" = some (some (.ref f38)))
    (l38 : K.lookup f38 = some ⟨oc38, od38, .func (PySem.W.fnOf "_law_machine" "_law_machine" (defArgs sLMac) (defBody sLMac) (defScope sLMac) .none kV38 dc38 pm38 an38 cd38 ct38), sl38⟩)
    (q38 : PySem.W.codeIn K cd38 "_law_machine" = true)
    (k38 : PySem.W.keepIn K (.ref f38) = true)
    (d39 : PySem.W.nsIn K mainGlobals "_law_made_machine" = some (some (.ref f39)))
    (l39 : K.lookup f39 = some ⟨oc39, od39, .func (PySem.W.fnOf "_law_made_machine" "_law_made_machine" (defArgs sMade) (defBody sMade) (defScope sMade) .none kV39 dc39 pm39 an39 cd39 ct39), sl39⟩)
    (q39 : PySem.W.codeIn K cd39 "_law_made_machine" = true)
    (k39 : PySem.W.keepIn K (.ref f39) = true)
    (d40 : PySem.W.nsIn K mainGlobals "_law_box" = some (some (.ref f40)))
    (l40 : K.lookup f40 = some ⟨oc40, od40, .func (PySem.W.fnOf "_law_box" "_law_box" (defArgs sLBox) (defBody sLBox) (defScope sLBox) .none kV40 dc40 pm40 an40 cd40 ct40), sl40⟩)
    (q40 : PySem.W.codeIn K cd40 "_law_box" = true)
    (k40 : PySem.W.keepIn K (.ref f40) = true)
    (d41 : PySem.W.nsIn K mainGlobals "_law_made_box" = some (some (.ref f41)))
    (l41 : K.lookup f41 = some ⟨oc41, od41, .func (PySem.W.fnOf "_law_made_box" "_law_made_box" (defArgs sMBox) (defBody sMBox) (defScope sMBox) .none kV41 dc41 pm41 an41 cd41 ct41), sl41⟩)
    (q41 : PySem.W.codeIn K cd41 "_law_made_box" = true)
    (k41 : PySem.W.keepIn K (.ref f41) = true)
    (d42 : PySem.W.nsIn K mainGlobals "_law_met" = some (some (.ref f42)))
    (l42 : K.lookup f42 = some ⟨oc42, od42, .func (PySem.W.fnOf "_law_met" "_law_met" (defArgs sMet) (defBody sMet) (defScope sMet) .none kV42 dc42 pm42 an42 cd42 ct42), sl42⟩)
    (q42 : PySem.W.codeIn K cd42 "_law_met" = true)
    (k42 : PySem.W.keepIn K (.ref f42) = true)
    (d43 : PySem.W.nsIn K mainGlobals "_law_made_calls" = some (some (.ref f43)))
    (l43 : K.lookup f43 = some ⟨oc43, od43, .func (PySem.W.fnOf "_law_made_calls" "_law_made_calls" (defArgs sMC) (defBody sMC) (defScope sMC) .none kV43 dc43 pm43 an43 (.ref oM) ct43), sl43⟩)
    (q43 : PySem.W.codeIn K (.ref oM) "_law_made_calls" = true)
    (k43 : PySem.W.keepIn K (.ref f43) = true)
    (d44 : PySem.W.nsIn K mainGlobals "_law_box_calls" = some (some (.ref f44)))
    (l44 : K.lookup f44 = some ⟨oc44, od44, .func (PySem.W.fnOf "_law_box_calls" "_law_box_calls" (defArgs sBC2) (defBody sBC2) (defScope sBC2) .none kV44 dc44 pm44 an44 (.ref oB) ct44), sl44⟩)
    (q44 : PySem.W.codeIn K (.ref oB) "_law_box_calls" = true)
    (k44 : PySem.W.keepIn K (.ref f44) = true)
    (d45 : PySem.W.nsIn K mainGlobals "_law_sight_calls" = some (some (.ref f45)))
    (l45 : K.lookup f45 = some ⟨oc45, od45, .func (PySem.W.fnOf "_law_sight_calls" "_law_sight_calls" (defArgs sSC) (defBody sSC) (defScope sSC) .none kV45 dc45 pm45 an45 (.ref oS) ct45), sl45⟩)
    (q45 : PySem.W.codeIn K (.ref oS) "_law_sight_calls" = true)
    (k45 : PySem.W.keepIn K (.ref f45) = true)
    (d46 : PySem.W.nsIn K mainGlobals "_law_right" = some (some (.ref f46)))
    (l46 : K.lookup f46 = some ⟨oc46, od46, .func (PySem.W.fnOf "_law_right" "_law_right" (defArgs sRt) (defBody sRt) (defScope sRt) .none kV46 dc46 pm46 an46 (.ref oR) ct46), sl46⟩)
    (q46 : PySem.W.codeIn K (.ref oR) "_law_right" = true)
    (k46 : PySem.W.keepIn K (.ref f46) = true)
    (d47 : PySem.W.nsIn K mainGlobals "law" = some (some (.ref f47)))
    (l47 : K.lookup f47 = some ⟨oc47, od47, .func (PySem.W.fnOf "law" "law" (defArgs sLw) (defBody sLw) (defScope sLw) .none kV47 dc47 pm47 an47 (.ref oL) ct47), sl47⟩)
    (q47 : PySem.W.codeIn K (.ref oL) "law" = true)
    (k47 : PySem.W.keepIn K (.ref f47) = true)
    (l48 : K.lookup f48 = some ⟨oc48, od48, .func (PySem.W.fnOf "__init__" "Made.__init__" (defArgs sMadeI) (defBody sMadeI) (defScope sMadeI) .none kV48 dc48 pm48 an48 cd48 ct48), sl48⟩)
    (q48 : PySem.W.codeIn K cd48 "Made.__init__" = true)
    (k48 : PySem.W.keepIn K (.ref f48) = true)
    (l49 : K.lookup f49 = some ⟨oc49, od49, .func (PySem.W.fnOf "__init__" "Box.__init__" (defArgs sBoxI) (defBody sBoxI) (defScope sBoxI) .none kV49 dc49 pm49 an49 cd49 ct49), sl49⟩)
    (q49 : PySem.W.codeIn K cd49 "Box.__init__" = true)
    (k49 : PySem.W.keepIn K (.ref f49) = true)
    (l50 : K.lookup f50 = some ⟨oc50, od50, .func (PySem.W.fnOf "__init__" "Machine.__init__" (defArgs sMInit) (defBody sMInit) (defScope sMInit) (.ref t50) kV50 dc50 pm50 an50 cd50 ct50), sl50⟩)
    (q50 : PySem.W.codeIn K cd50 "Machine.__init__" = true)
    (k50 : PySem.W.keepIn K (.ref f50) = true)
    (l51 : K.lookup f51 = some ⟨oc51, od51, .func (PySem.W.fnOf "__init__" "TooMany.__init__" (defArgs sTMI) (defBody sTMI) (defScope sTMI) .none kV51 dc51 pm51 an51 cd51 ct51), sl51⟩)
    (q51 : PySem.W.codeIn K cd51 "TooMany.__init__" = true)
    (k51 : PySem.W.keepIn K (.ref f51) = true)
    (l52 : K.lookup f52 = some ⟨oc52, od52, .func (PySem.W.fnOf "__init__" "InvalidNumber.__init__" (defArgs sINI) (defBody sINI) (defScope sINI) .none kV52 dc52 pm52 an52 cd52 ct52), sl52⟩)
    (q52 : PySem.W.codeIn K cd52 "InvalidNumber.__init__" = true)
    (k52 : PySem.W.keepIn K (.ref f52) = true)
    (l53 : K.lookup f53 = some ⟨oc53, od53, .func (PySem.W.fnOf "window" "Box.window" (defArgs sWindowM) (defBody sWindowM) (defScope sWindowM) .none kV53 dc53 pm53 an53 cd53 ct53), sl53⟩)
    (q53 : PySem.W.codeIn K cd53 "Box.window" = true)
    (k53 : PySem.W.keepIn K (.ref f53) = true)
    (l54 : K.lookup f54 = some ⟨oc54, od54, .func (PySem.W.fnOf "heads" "Box.heads" (defArgs sHeadsM) (defBody sHeadsM) (defScope sHeadsM) .none kV54 dc54 pm54 an54 cd54 ct54), sl54⟩)
    (q54 : PySem.W.codeIn K cd54 "Box.heads" = true)
    (k54 : PySem.W.keepIn K (.ref f54) = true)
    (l55 : K.lookup f55 = some ⟨oc55, od55, .func (PySem.W.fnOf "pieces" "Box.pieces" (defArgs sPiecesM) (defBody sPiecesM) (defScope sPiecesM) .none kV55 dc55 pm55 an55 cd55 ct55), sl55⟩)
    (q55 : PySem.W.codeIn K cd55 "Box.pieces" = true)
    (k55 : PySem.W.keepIn K (.ref f55) = true)
    (l56 : K.lookup f56 = some ⟨oc56, od56, .func (PySem.W.fnOf "caps" "Box.caps" (defArgs sCapsM) (defBody sCapsM) (defScope sCapsM) .none kV56 dc56 pm56 an56 cd56 ct56), sl56⟩)
    (q56 : PySem.W.codeIn K cd56 "Box.caps" = true)
    (k56 : PySem.W.keepIn K (.ref f56) = true)
    (l57 : K.lookup f57 = some ⟨oc57, od57, .func (PySem.W.fnOf "rests" "Box.rests" (defArgs sRestsM) (defBody sRestsM) (defScope sRestsM) .none kV57 dc57 pm57 an57 cd57 ct57), sl57⟩)
    (q57 : PySem.W.codeIn K cd57 "Box.rests" = true)
    (k57 : PySem.W.keepIn K (.ref f57) = true)
    (l58 : K.lookup f58 = some ⟨oc58, od58, .func (PySem.W.fnOf "clerk" "Box.clerk" (defArgs sClerkM) (defBody sClerkM) (defScope sClerkM) .none kV58 dc58 pm58 an58 cd58 ct58), sl58⟩)
    (q58 : PySem.W.codeIn K cd58 "Box.clerk" = true)
    (k58 : PySem.W.keepIn K (.ref f58) = true)
    (l59 : K.lookup f59 = some ⟨oc59, od59, .func (PySem.W.fnOf "letters" "Box.letters" (defArgs sBGet) (defBody sBGet) (defScope sBGet) .none kV59 dc59 pm59 an59 cd59 ct59), sl59⟩)
    (q59 : PySem.W.codeIn K cd59 "Box.letters" = true)
    (k59 : PySem.W.keepIn K (.ref f59) = true)
    (l60 : K.lookup f60 = some ⟨oc60, od60, .func (PySem.W.fnOf "letters" "Machine.letters" (defArgs sMLet) (defBody sMLet) (defScope sMLet) .none kV60 dc60 pm60 an60 cd60 ct60), sl60⟩)
    (q60 : PySem.W.codeIn K cd60 "Machine.letters" = true)
    (k60 : PySem.W.keepIn K (.ref f60) = true)
    (l61 : K.lookup f61 = some ⟨oc61, od61, .func (PySem.W.fnOf "__call__" "Box.__call__" (defArgs sBCall) (defBody sBCall) (defScope sBCall) .none kV61 dc61 pm61 an61 cd61 ct61), sl61⟩)
    (q61 : PySem.W.codeIn K cd61 "Box.__call__" = true)
    (k61 : PySem.W.keepIn K (.ref f61) = true)
    (l62 : K.lookup f62 = some ⟨oc62, od62, .func (PySem.W.fnOf "place" "Box.place" (defArgs sBPlace) (defBody sBPlace) (defScope sBPlace) .none (.ref DK) dc62 pm62 an62 cd62 ct62), sl62⟩)
    (q62 : PySem.W.codeIn K cd62 "Box.place" = true)
    (k62 : PySem.W.keepIn K (.ref f62) = true)
    (l63 : K.lookup f63 = some ⟨oc63, od63, .func (PySem.W.fnOf "action" "Box.action" (defArgs sBAct) (defBody sBAct) (defScope sBAct) .none kV63 dc63 pm63 an63 cd63 ct63), sl63⟩)
    (q63 : PySem.W.codeIn K cd63 "Box.action" = true)
    (k63 : PySem.W.keepIn K (.ref f63) = true)
    (l64 : K.lookup f64 = some ⟨oc64, od64, .func (PySem.W.fnOf "first_word" "Box.first_word" (defArgs sBFirst) (defBody sBFirst) (defScope sBFirst) .none kV64 dc64 pm64 an64 cd64 ct64), sl64⟩)
    (q64 : PySem.W.codeIn K cd64 "Box.first_word" = true)
    (k64 : PySem.W.keepIn K (.ref f64) = true)
    (l65 : K.lookup f65 = some ⟨oc65, od65, .func (PySem.W.fnOf "machine" "Box.machine" (defArgs sBxMach) (defBody sBxMach) (defScope sBxMach) .none kV65 dc65 pm65 an65 cd65 ct65), sl65⟩)
    (q65 : PySem.W.codeIn K cd65 "Box.machine" = true)
    (k65 : PySem.W.keepIn K (.ref f65) = true)
    (l66 : K.lookup f66 = some ⟨oc66, od66, .func (PySem.W.fnOf "__and__" "Box.__and__" (defArgs sBxAnd) (defBody sBxAnd) (defScope sBxAnd) .none kV66 dc66 pm66 an66 cd66 ct66), sl66⟩)
    (q66 : PySem.W.codeIn K cd66 "Box.__and__" = true)
    (k66 : PySem.W.keepIn K (.ref f66) = true)
    (l67 : K.lookup f67 = some ⟨oc67, od67, .func (PySem.W.fnOf "__len__" "Box.__len__" (defArgs sBLen) (defBody sBLen) (defScope sBLen) .none kV67 dc67 pm67 an67 cd67 ct67), sl67⟩)
    (q67 : PySem.W.codeIn K cd67 "Box.__len__" = true)
    (k67 : PySem.W.keepIn K (.ref f67) = true)
    (kw : PySem.W.nsIn K DK "times" = some (some (.int 1 xkw)))
    (y0 : K.lookup t0 = some ⟨e0, j0, .seq #[u0] m0, w0⟩)
    (y50 : K.lookup t50 = some ⟨e50, j50, .seq #[u50] m50, w50⟩)
    (hPL : h.get? PL = some (PySem.W.tabObj #[]))
    (nPL : K.lookup PL = none)
    (hCL : PySem.W.codeHdIn K oL PL = true)
    (hPR : h.get? PR = some (PySem.W.tabObj #[]))
    (nPR : K.lookup PR = none)
    (hCR : PySem.W.codeHdIn K oR PR = true)
    (hPS : h.get? PS = some (PySem.W.tabObj #[]))
    (nPS : K.lookup PS = none)
    (hCS : PySem.W.codeHdIn K oS PS = true)
    (hPB : h.get? PB = some (PySem.W.tabObj #[]))
    (nPB : K.lookup PB = none)
    (hCB : PySem.W.codeHdIn K oB PB = true)
    (hPM : h.get? PM = some (PySem.W.tabObj #[]))
    (nPM : K.lookup PM = none)
    (hCM : PySem.W.codeHdIn K oM PM = true)
    (hPN : h.get? PN = some (PySem.W.tabObj #[]))
    (nPN : K.lookup PN = none)
    (hCN : PySem.W.codeHdIn K oN PN = true)
    (un : decide ([PL, PR, PS, PB, PM, PN].Nodup) = true)
    (vMAX_MADE : PySem.W.nsIn K mainGlobals "MAX_MADE" = some (some (.int 400 xMAX_MADE)))
    (v_MAX_SIZE : PySem.W.nsIn K mainGlobals "_MAX_SIZE" = some (some (.int 4 x_MAX_SIZE)))
    (v_MAX_PIECES : PySem.W.nsIn K mainGlobals "_MAX_PIECES" = some (some (.int 3 x_MAX_PIECES)))
    (v_MAX_CAP : PySem.W.nsIn K mainGlobals "_MAX_CAP" = some (some (.int 9 x_MAX_CAP)))
    (v_MAX_MODULUS : PySem.W.nsIn K mainGlobals "_MAX_MODULUS" = some (some (.int 12 x_MAX_MODULUS)))
    (vMAX_LETTERS : PySem.W.nsIn K mainGlobals "MAX_LETTERS" = some (some (.int 3 xMAX_LETTERS)))
    (vMAX_PLACES : PySem.W.nsIn K mainGlobals "MAX_PLACES" = some (some (.int 6 xMAX_PLACES)))
    (vMAX_STATES : PySem.W.nsIn K mainGlobals "MAX_STATES" = some (some (.int 4 xMAX_STATES)))
    (vMAX_TIMES : PySem.W.nsIn K mainGlobals "MAX_TIMES" = some (some (.int 100000000000 xMAX_TIMES)))
    (v_MOST_MACHINES : PySem.W.nsIn K mainGlobals "_MOST_MACHINES" = some (some (.int 8 x_MOST_MACHINES)))
    (z_len : PySem.W.nsIn K mainGlobals "len" = some none)
    (z_int : PySem.W.nsIn K mainGlobals "int" = some none)
    (z_abs : PySem.W.nsIn K mainGlobals "abs" = some none)
    (z_isinstance : PySem.W.nsIn K mainGlobals "isinstance" = some none)
    (z_bool : PySem.W.nsIn K mainGlobals "bool" = some none)
    (z_str : PySem.W.nsIn K mainGlobals "str" = some none)
    (z_all : PySem.W.nsIn K mainGlobals "all" = some none)
    (z_range : PySem.W.nsIn K mainGlobals "range" = some none)
    (z_sorted : PySem.W.nsIn K mainGlobals "sorted" = some none)
    (z_set : PySem.W.nsIn K mainGlobals "set" = some none)
    (z_tuple : PySem.W.nsIn K mainGlobals "tuple" = some none)
    (z_list : PySem.W.nsIn K mainGlobals "list" = some none)
    (z_max : PySem.W.nsIn K mainGlobals "max" = some none)
    (z_min : PySem.W.nsIn K mainGlobals "min" = some none)
    (z_zip : PySem.W.nsIn K mainGlobals "zip" = some none)
    (z_repr : PySem.W.nsIn K mainGlobals "repr" = some none) :
    WG.LawAtG l w K 14 63 "_law_script" mg fa h := by
  have e := hfa.symm.trans (PySem.W.mg_of X G d47)
  cases e
  have T : TN mg := ⟨PySem.W.mg_none_of X G z_len, PySem.W.mg_none_of X G z_int, PySem.W.mg_none_of X G z_abs, PySem.W.mg_none_of X G z_isinstance, PySem.W.mg_none_of X G z_bool, PySem.W.mg_none_of X G z_str, PySem.W.mg_none_of X G z_all, PySem.W.mg_none_of X G z_range, PySem.W.mg_none_of X G z_sorted, PySem.W.mg_none_of X G z_set, PySem.W.mg_none_of X G z_tuple, PySem.W.mg_none_of X G z_list, PySem.W.mg_none_of X G z_max, PySem.W.mg_none_of X G z_min, PySem.W.mg_none_of X G z_zip, ⟨_, PySem.W.mg_of X G vMAX_LETTERS⟩⟩
  have rp := PySem.W.mg_none_of X G z_repr
  have cl : Cls K C := ⟨pgb, hdb, pob, sab⟩
  have clD : Cls K cD := ⟨pgd, hdd, pod, sad⟩
  have clM : Cls K CM := ⟨pgm, hdm, pom, sam⟩
  have M : TBx K mg C cD := ⟨cl, nT, nL, clD, nR, PySem.W.mg_of X G gb, PySem.W.mg_of X G gd, fun e => .ins e cl ccb cn ct obb, fun e => .ins e clD ccd cn ct obd, ⟨_, PySem.W.mg_of X G vMAX_MADE⟩⟩
  have Y : TBy K C := ⟨⟨ccb, cn, ct, obb⟩, ki⟩
  have YM : TBy K CM := ⟨⟨ccm, cn, ct, obm⟩, kim⟩
  have MM : TMc K mg CM cD cM := ⟨clM, nMT, nML, nME, PySem.W.mg_of X G gm, PySem.W.mg_of X G gd, fun t ht => by simpa using List.all_eq_true.mp kitD t ht, PySem.W.mg_of X G geM, xeM, keM, beM, teM, ⟨_, PySem.W.mg_of X G vMAX_STATES⟩⟩
  have NCb : NoC K C := all_false ncb
  have NCd : NoC K cD := all_false ncd
  have NCm : NoC K CM := all_false ncm
  have Rl : PropOf K C "letters" pl f59 := ⟨pal, pg_l, pt_l, _, pr_l⟩
  have Rml : PropOf K CM "letters" pml f60 := ⟨paml, pg_ml, pt_ml, _, pr_ml⟩
  have RsW : Rs K mg "InvalidWord" cW := ⟨xeW, PySem.W.mg_of X G geW, keW, beW, teW⟩
  have RsM : Rs K mg "InvalidMachine" cM := ⟨xeM, PySem.W.mg_of X G geM, keM, beM, teM⟩
  have RsB : Rs K mg "InvalidBox" cB := ⟨xeB, PySem.W.mg_of X G geB, keB, beB, teB⟩
  have RsO : Rs K mg "InvalidOperation" cO := ⟨xeO, PySem.W.mg_of X G geO, keO, beO, teO⟩
  have EN := WE.ErrT.of ebN
  have ET := WE.ErrT.of ebT
  have EIN := WE.ErrI.of eiN
  have EIT := WE.ErrI.of eiT
  let c : ErrC := ⟨cW, cM, cB, cO, cP, cU, cN, cT⟩
  have TE : TErr K mg c := ⟨PySem.W.mg_of X G geW, PySem.W.mg_of X G geM, PySem.W.mg_of X G geB, PySem.W.mg_of X G geO, PySem.W.mg_of X G geP, PySem.W.mg_of X G geU, PySem.W.mg_of X G geN, PySem.W.mg_of X G geT, x_ww, x_mw, x_mm, x_bw, x_bm, x_bb, x_ow, x_om, x_ob, x_oo, x_nw, x_nm, x_nb, x_no, x_np, x_nu, x_nn, x_tw, x_tm, x_tb, x_to, x_tp, x_tu, x_tn, x_tt, ⟨EN.ga, EN.gg, EN.sb, EN.hd⟩, ⟨ET.ga, ET.gg, ET.sb, ET.hd⟩, noN, noT, rp, T.str⟩
  have nd : ([PL, PR, PS, PB, PM, PN] : List Addr).Nodup := of_decide_eq_true un
  have b0 := binds_four (fd := PySem.W.fnOf "explored" "explored" (defArgs sExpl) (defBody sExpl) (defScope sExpl) (.ref t0) kV0 dc0 pm0 an0 cd0 ct0) (f := f0) (a := "signs") (b := "start") (c := "step") (d := "most") y0 rfl (fun _ _ _ _ => ⟨_, rfl, rfl⟩)
  have g0 := PySem.W.mg_of X G d0
  have F1 := fun_mk (st := sIsInt) l1 q1 k1
  have b1 := F1.binds (ps := ["value"]) fun _ _ _ _ _ _ us hl => match us, hl with | [_], _ => rfl
  have A1 : Fn K mg "is_integer" sIsInt ["value"] f1 _ := ⟨PySem.W.mg_of X G d1, F1, b1⟩
  have F2 := fun_mk (st := sIsNum) l2 q2 k2
  have b2 := F2.binds (ps := ["value", "least", "most"]) fun _ _ _ _ _ _ us hl => match us, hl with | [_, _, _], _ => rfl
  have A2 : Fn K mg "is_number" sIsNum ["value", "least", "most"] f2 _ := ⟨PySem.W.mg_of X G d2, F2, b2⟩
  have F3 := fun_mk (st := sNeedNum) l3 q3 k3
  have b3 := F3.binds (ps := ["value", "least", "most"]) fun _ _ _ _ _ _ us hl => match us, hl with | [_, _, _], _ => rfl
  have A3 : Fn K mg "need_number" sNeedNum ["value", "least", "most"] f3 _ := ⟨PySem.W.mg_of X G d3, F3, b3⟩
  have F4 := fun_mk (st := sAsc) l4 q4 k4
  have b4 := F4.binds (ps := ["values"]) fun _ _ _ _ _ _ us hl => match us, hl with | [_], _ => rfl
  have A4 : Fn K mg "ascends" sAsc ["values"] f4 _ := ⟨PySem.W.mg_of X G d4, F4, b4⟩
  have F5 := fun_mk (st := sIsAsc) l5 q5 k5
  have b5 := F5.binds (ps := ["value", "many"]) fun _ _ _ _ _ _ us hl => match us, hl with | [_, _], _ => rfl
  have A5 : Fn K mg "is_ascending" sIsAsc ["value", "many"] f5 _ := ⟨PySem.W.mg_of X G d5, F5, b5⟩
  have F6 := fun_mk (st := sIsTab) l6 q6 k6
  have b6 := F6.binds (ps := ["value", "width", "most"]) fun _ _ _ _ _ _ us hl => match us, hl with | [_, _, _], _ => rfl
  have A6 : Fn K mg "is_table" sIsTab ["value", "width", "most"] f6 _ := ⟨PySem.W.mg_of X G d6, F6, b6⟩
  have F7 := fun_mk (st := sIsRow) l7 q7 k7
  have b7 := F7.binds (ps := ["value", "width", "many"]) fun _ _ _ _ _ _ us hl => match us, hl with | [_, _, _], _ => rfl
  have A7 : Fn K mg "_is_row" sIsRow ["value", "width", "many"] f7 _ := ⟨PySem.W.mg_of X G d7, F7, b7⟩
  have F8 := fun_mk (st := sIsLet) l8 q8 k8
  have b8 := F8.binds (ps := ["value"]) fun _ _ _ _ _ _ us hl => match us, hl with | [_], _ => rfl
  have A8 : Fn K mg "is_letters" sIsLet ["value"] f8 _ := ⟨PySem.W.mg_of X G d8, F8, b8⟩
  have F9 := fun_mk (st := sIsWord) l9 q9 k9
  have b9 := F9.binds (ps := ["value"]) fun _ _ _ _ _ _ us hl => match us, hl with | [_], _ => rfl
  have A9 : Fn K mg "is_word" sIsWord ["value"] f9 _ := ⟨PySem.W.mg_of X G d9, F9, b9⟩
  have F10 := fun_mk (st := sIsOver) l10 q10 k10
  have b10 := F10.binds (ps := ["letters", "word"]) fun _ _ _ _ _ _ us hl => match us, hl with | [_, _], _ => rfl
  have A10 : Fn K mg "is_over" sIsOver ["letters", "word"] f10 _ := ⟨PySem.W.mg_of X G d10, F10, b10⟩
  have F11 := fun_mk (st := sNeedLet) l11 q11 k11
  have b11 := F11.binds (ps := ["letters"]) fun _ _ _ _ _ _ us hl => match us, hl with | [_], _ => rfl
  have A11 : Fn K mg "need_letters" sNeedLet ["letters"] f11 _ := ⟨PySem.W.mg_of X G d11, F11, b11⟩
  have F12 := fun_mk (st := sNeedWord) l12 q12 k12
  have b12 := F12.binds (ps := ["word"]) fun _ _ _ _ _ _ us hl => match us, hl with | [_], _ => rfl
  have A12 : Fn K mg "need_word" sNeedWord ["word"] f12 _ := ⟨PySem.W.mg_of X G d12, F12, b12⟩
  have F13 := fun_mk (st := sNeedOver) l13 q13 k13
  have b13 := F13.binds (ps := ["letters", "word"]) fun _ _ _ _ _ _ us hl => match us, hl with | [_, _], _ => rfl
  have A13 : Fn K mg "need_over" sNeedOver ["letters", "word"] f13 _ := ⟨PySem.W.mg_of X G d13, F13, b13⟩
  have F14 := fun_mk (st := sNeedMs) l14 q14 k14
  have b14 := F14.binds (ps := ["machines"]) fun _ _ _ _ _ _ us hl => match us, hl with | [_], _ => rfl
  have A14 : Fn K mg "need_machines" sNeedMs ["machines"] f14 _ := ⟨PySem.W.mg_of X G d14, F14, b14⟩
  have F15 := fun_mk (st := sSame) l15 q15 k15
  have b15 := F15.binds (ps := ["one", "other"]) fun _ _ _ _ _ _ us hl => match us, hl with | [_, _], _ => rfl
  have A15 : Fn K mg "need_same_letters" sSame ["one", "other"] f15 _ := ⟨PySem.W.mg_of X G d15, F15, b15⟩
  have F16 := fun_mk (st := sNeedBox) l16 q16 k16
  have b16 := F16.binds (ps := ["box"]) fun _ _ _ _ _ _ us hl => match us, hl with | [_], _ => rfl
  have A16 : Fn K mg "need_box" sNeedBox ["box"] f16 _ := ⟨PySem.W.mg_of X G d16, F16, b16⟩
  have F17 := fun_mk (st := sGrown) l17 q17 k17
  have b17 := F17.binds (ps := ["letters", "start", "step"]) fun _ _ _ _ _ _ us hl => match us, hl with | [_, _, _], _ => rfl
  have A17 : Fn K mg "_grown" sGrown ["letters", "start", "step"] f17 _ := ⟨PySem.W.mg_of X G d17, F17, b17⟩
  have F18 := fun_mk (st := sCount) l18 q18 k18
  have b18 := F18.binds (ps := ["letters", "cap", "modulus"]) fun _ _ _ _ _ _ us hl => match us, hl with | [_, _, _], _ => rfl
  have A18 : Fn K mg "_counting" sCount ["letters", "cap", "modulus"] f18 _ := ⟨PySem.W.mg_of X G d18, F18, b18⟩
  have F19 := fun_mk (st := sOneM) l19 q19 k19
  have b19 := F19.binds (ps := ["number", "cap", "modulus"]) fun _ _ _ _ _ _ us hl => match us, hl with | [_, _, _], _ => rfl
  have A19 : Fn K mg "_one_more" sOneM ["number", "cap", "modulus"] f19 _ := ⟨PySem.W.mg_of X G d19, F19, b19⟩
  have F20 := fun_mk (st := sPlaces) l20 q20 k20
  have b20 := F20.binds (ps := ["machine", "box"]) fun _ _ _ _ _ _ us hl => match us, hl with | [_, _], _ => rfl
  have A20 : Fn K mg "places" sPlaces ["machine", "box"] f20 _ := ⟨PySem.W.mg_of X G d20, F20, b20⟩
  have F21 := fun_mk (st := sWordTo) l21 q21 k21
  have b21 := F21.binds (ps := ["machine", "box", "place"]) fun _ _ _ _ _ _ us hl => match us, hl with | [_, _, _], _ => rfl
  have A21 : Fn K mg "word_to" sWordTo ["machine", "box", "place"] f21 _ := ⟨PySem.W.mg_of X G d21, F21, b21⟩
  have F22 := fun_mk (st := sTells) l22 q22 k22
  have b22 := F22.binds (ps := ["one", "other", "box"]) fun _ _ _ _ _ _ us hl => match us, hl with | [_, _, _], _ => rfl
  have A22 : Fn K mg "tells_apart" sTells ["one", "other", "box"] f22 _ := ⟨PySem.W.mg_of X G d22, F22, b22⟩
  have F23 := fun_mk (st := sAlikeP) l23 q23 k23
  have b23 := F23.binds (ps := ["one", "other", "box"]) fun _ _ _ _ _ _ us hl => match us, hl with | [_, _, _], _ => rfl
  have A23 : Fn K mg "alike_pair" sAlikeP ["one", "other", "box"] f23 _ := ⟨PySem.W.mg_of X G d23, F23, b23⟩
  have F24 := fun_mk (st := sIsAlikeP) l24 q24 k24
  have b24 := F24.binds (ps := ["one", "other", "box", "value"]) fun _ _ _ _ _ _ us hl => match us, hl with | [_, _, _, _], _ => rfl
  have A24 : Fn K mg "is_alike_pair" sIsAlikeP ["one", "other", "box", "value"] f24 _ := ⟨PySem.W.mg_of X G d24, F24, b24⟩
  have F25 := fun_mk (st := sIsSeen) l25 q25 k25
  have b25 := F25.binds (ps := ["machine", "box", "word"]) fun _ _ _ _ _ _ us hl => match us, hl with | [_, _, _], _ => rfl
  have A25 : Fn K mg "is_seen" sIsSeen ["machine", "box", "word"] f25 _ := ⟨PySem.W.mg_of X G d25, F25, b25⟩
  have F26 := fun_mk (st := sApartP) l26 q26 k26
  have b26 := F26.binds (ps := ["one", "other", "box"]) fun _ _ _ _ _ _ us hl => match us, hl with | [_, _, _], _ => rfl
  have A26 : Fn K mg "apart_paper" sApartP ["one", "other", "box"] f26 _ := ⟨PySem.W.mg_of X G d26, F26, b26⟩
  have F27 := fun_mk (st := sIsApartP) l27 q27 k27
  have b27 := F27.binds (ps := ["one", "other", "box", "value"]) fun _ _ _ _ _ _ us hl => match us, hl with | [_, _, _, _], _ => rfl
  have A27 : Fn K mg "is_apart_paper" sIsApartP ["one", "other", "box", "value"] f27 _ := ⟨PySem.W.mg_of X G d27, F27, b27⟩
  have F28 := fun_mk (st := sGuesses) l28 q28 k28
  have b28 := F28.binds (ps := ["box", "machines", "word"]) fun _ _ _ _ _ _ us hl => match us, hl with | [_, _, _], _ => rfl
  have A28 : Fn K mg "guesses_of" sGuesses ["box", "machines", "word"] f28 _ := ⟨PySem.W.mg_of X G d28, F28, b28⟩
  have F29 := fun_mk (st := sBGroups) l29 q29 k29
  have b29 := F29.binds (ps := ["box", "machines"]) fun _ _ _ _ _ _ us hl => match us, hl with | [_, _], _ => rfl
  have A29 : Fn K mg "box_groups" sBGroups ["box", "machines"] f29 _ := ⟨PySem.W.mg_of X G d29, F29, b29⟩
  have F30 := fun_mk (st := sNeedAll) l30 q30 k30
  have b30 := F30.binds (ps := ["machines", "box"]) fun _ _ _ _ _ _ us hl => match us, hl with | [_, _], _ => rfl
  have A30 : Fn K mg "_need" sNeedAll ["machines", "box"] f30 _ := ⟨PySem.W.mg_of X G d30, F30, b30⟩
  have F31 := fun_mk (st := sNeedLs) l31 q31 k31
  have b31 := F31.binds (ps := ["machines", "box"]) fun _ _ _ _ _ _ us hl => match us, hl with | [_, _], _ => rfl
  have A31 : Fn K mg "_need_letters" sNeedLs ["machines", "box"] f31 _ := ⟨PySem.W.mg_of X G d31, F31, b31⟩
  have F32 := fun_mk (st := sNeedSome) l32 q32 k32
  have b32 := F32.binds (ps := ["machines"]) fun _ _ _ _ _ _ us hl => match us, hl with | [_], _ => rfl
  have A32 : Fn K mg "_need_some" sNeedSome ["machines"] f32 _ := ⟨PySem.W.mg_of X G d32, F32, b32⟩
  have F33 := fun_mk (st := sDice) l33 q33 k33
  have b33 := F33.binds (ps := ["_law_script", "_law_at"]) fun _ _ _ _ _ _ us hl => match us, hl with | [_, _], _ => rfl
  have A33 : Fn K mg "_law_dice" sDice ["_law_script", "_law_at"] f33 _ := ⟨PySem.W.mg_of X G d33, F33, b33⟩
  have F34 := fun_mk (st := sRoll) l34 q34 k34
  have b34 := F34.binds (ps := ["_law_dice_here", "_law_total"]) fun _ _ _ _ _ _ us hl => match us, hl with | [_, _], _ => rfl
  have A34 : Fn K mg "_law_roll" sRoll ["_law_dice_here", "_law_total"] f34 _ := ⟨PySem.W.mg_of X G d34, F34, b34⟩
  have F35 := fun_mk (st := sOne) l35 q35 k35
  have b35 := F35.binds (ps := ["_law_dice_here", "_law_items"]) fun _ _ _ _ _ _ us hl => match us, hl with | [_, _], _ => rfl
  have A35 : Fn K mg "_law_one_of" sOne ["_law_dice_here", "_law_items"] f35 _ := ⟨PySem.W.mg_of X G d35, F35, b35⟩
  have F36 := fun_mk (st := sAct) l36 q36 k36
  have b36 := F36.binds (ps := ["_law_dice_here", "_law_size", "_law_sort"]) fun _ _ _ _ _ _ us hl => match us, hl with | [_, _, _], _ => rfl
  have A36 : Fn K mg "_law_action" sAct ["_law_dice_here", "_law_size", "_law_sort"] f36 _ := ⟨PySem.W.mg_of X G d36, F36, b36⟩
  have F37 := fun_mk (st := sLTab) l37 q37 k37
  have b37 := F37.binds (ps := ["_law_dice_here", "_law_letters", "_law_size", "_law_sorts"]) fun _ _ _ _ _ _ us hl => match us, hl with | [_, _, _, _], _ => rfl
  have A37 : Fn K mg "_law_table" sLTab ["_law_dice_here", "_law_letters", "_law_size", "_law_sorts"] f37 _ := ⟨PySem.W.mg_of X G d37, F37, b37⟩
  have F38 := fun_mk (st := sLMac) l38 q38 k38
  have b38 := F38.binds (ps := ["_law_dice_here", "_law_letters", "_law_states"]) fun _ _ _ _ _ _ us hl => match us, hl with | [_, _, _], _ => rfl
  have A38 : Fn K mg "_law_machine" sLMac ["_law_dice_here", "_law_letters", "_law_states"] f38 _ := ⟨PySem.W.mg_of X G d38, F38, b38⟩
  have F39 := fun_mk (st := sMade) l39 q39 k39
  have b39 := F39.binds (ps := ["_law_plain"]) fun _ _ _ _ _ _ us hl => match us, hl with | [_], _ => rfl
  have A39 : Fn K mg "_law_made_machine" sMade ["_law_plain"] f39 _ := ⟨PySem.W.mg_of X G d39, F39, b39⟩
  have F40 := fun_mk (st := sLBox) l40 q40 k40
  have b40 := F40.binds (ps := ["_law_dice_here", "_law_letters", "_law_most"]) fun _ _ _ _ _ _ us hl => match us, hl with | [_, _, _], _ => rfl
  have A40 : Fn K mg "_law_box" sLBox ["_law_dice_here", "_law_letters", "_law_most"] f40 _ := ⟨PySem.W.mg_of X G d40, F40, b40⟩
  have F41 := fun_mk (st := sMBox) l41 q41 k41
  have b41 := F41.binds (ps := ["_law_letters", "_law_table_here"]) fun _ _ _ _ _ _ us hl => match us, hl with | [_, _], _ => rfl
  have A41 : Fn K mg "_law_made_box" sMBox ["_law_letters", "_law_table_here"] f41 _ := ⟨PySem.W.mg_of X G d41, F41, b41⟩
  have F42 := fun_mk (st := sMet) l42 q42 k42
  have b42 := F42.binds (ps := ["_law_call"]) fun _ _ _ _ _ _ us hl => match us, hl with | [_], _ => rfl
  have A42 : Fn K mg "_law_met" sMet ["_law_call"] f42 _ := ⟨PySem.W.mg_of X G d42, F42, b42⟩
  have F43 := fun_mk (st := sMC) l43 q43 k43
  have b43 := F43.binds (ps := ["_law_dice_here"]) fun _ _ _ _ _ _ us hl => match us, hl with | [_], _ => rfl
  have A43 : Fn K mg "_law_made_calls" sMC ["_law_dice_here"] f43 _ := ⟨PySem.W.mg_of X G d43, F43, b43⟩
  have F44 := fun_mk (st := sBC2) l44 q44 k44
  have b44 := F44.binds (ps := ["_law_dice_here", "_law_letters", "_law_table_here"]) fun _ _ _ _ _ _ us hl => match us, hl with | [_, _, _], _ => rfl
  have A44 : Fn K mg "_law_box_calls" sBC2 ["_law_dice_here", "_law_letters", "_law_table_here"] f44 _ := ⟨PySem.W.mg_of X G d44, F44, b44⟩
  have F45 := fun_mk (st := sSC) l45 q45 k45
  have b45 := F45.binds (ps := ["_law_dice_here", "_law_letters", "_law_table_here"]) fun _ _ _ _ _ _ us hl => match us, hl with | [_, _, _], _ => rfl
  have A45 : Fn K mg "_law_sight_calls" sSC ["_law_dice_here", "_law_letters", "_law_table_here"] f45 _ := ⟨PySem.W.mg_of X G d45, F45, b45⟩
  have F46 := fun_mk (st := sRt) l46 q46 k46
  have b46 := F46.binds (ps := ["_law_dice_here"]) fun _ _ _ _ _ _ us hl => match us, hl with | [_], _ => rfl
  have A46 : Fn K mg "_law_right" sRt ["_law_dice_here"] f46 _ := ⟨PySem.W.mg_of X G d46, F46, b46⟩
  have F47 := fun_mk (st := sLw) l47 q47 k47
  have F48 := fun_mk (st := sMadeI) l48 q48 k48
  have b48 := F48.binds (ps := ["self", "rows"]) fun _ _ _ _ _ _ us hl => match us, hl with | [_, _], _ => rfl
  have F49 := fun_mk (st := sBoxI) l49 q49 k49
  have b49 := F49.binds (ps := ["self", "letters", "table"]) fun _ _ _ _ _ _ us hl => match us, hl with | [_, _, _], _ => rfl
  have b50 := binds_four (fd := PySem.W.fnOf "__init__" "Machine.__init__" (defArgs sMInit) (defBody sMInit) (defScope sMInit) (.ref t50) kV50 dc50 pm50 an50 cd50 ct50) (f := f50) (a := "self") (b := "letters") (c := "table") (d := "ends") y50 rfl (fun _ _ _ _ => ⟨_, rfl, rfl⟩)
  have F51 := fun_mk (st := sTMI) l51 q51 k51
  have b51 := F51.binds (ps := ["self", "limit"]) fun _ _ _ _ _ _ us hl => match us, hl with | [_, _], _ => rfl
  have F52 := fun_mk (st := sINI) l52 q52 k52
  have b52 := F52.binds (ps := ["self", "value"]) fun _ _ _ _ _ _ us hl => match us, hl with | [_, _], _ => rfl
  have F53 := fun_mk (st := sWindowM) l53 q53 k53
  have b53 := F53.binds (ps := ["cls", "letters", "size"]) fun _ _ _ _ _ _ us hl => match us, hl with | [_, _, _], _ => rfl
  have F54 := fun_mk (st := sHeadsM) l54 q54 k54
  have b54 := F54.binds (ps := ["cls", "letters", "size"]) fun _ _ _ _ _ _ us hl => match us, hl with | [_, _, _], _ => rfl
  have F55 := fun_mk (st := sPiecesM) l55 q55 k55
  have b55 := F55.binds (ps := ["cls", "letters", "most"]) fun _ _ _ _ _ _ us hl => match us, hl with | [_, _, _], _ => rfl
  have F56 := fun_mk (st := sCapsM) l56 q56 k56
  have b56 := F56.binds (ps := ["cls", "letters", "most"]) fun _ _ _ _ _ _ us hl => match us, hl with | [_, _, _], _ => rfl
  have F57 := fun_mk (st := sRestsM) l57 q57 k57
  have b57 := F57.binds (ps := ["cls", "letters", "modulus"]) fun _ _ _ _ _ _ us hl => match us, hl with | [_, _, _], _ => rfl
  have F58 := fun_mk (st := sClerkM) l58 q58 k58
  have b58 := F58.binds (ps := ["cls", "letters", "cap", "modulus"]) fun _ _ _ _ _ _ us hl => match us, hl with | [_, _, _, _], _ => rfl
  have F59 := fun_mk (st := sBGet) l59 q59 k59
  have b59 := F59.binds (ps := ["self"]) fun _ _ _ _ _ _ us hl => match us, hl with | [_], _ => rfl
  have F60 := fun_mk (st := sMLet) l60 q60 k60
  have b60 := F60.binds (ps := ["self"]) fun _ _ _ _ _ _ us hl => match us, hl with | [_], _ => rfl
  have F61 := fun_mk (st := sBCall) l61 q61 k61
  have b61 := F61.binds (ps := ["self", "word"]) fun _ _ _ _ _ _ us hl => match us, hl with | [_, _], _ => rfl
  have FP : FunD K "place" "Box.place" (defArgs sBPlace) (defBody sBPlace) (defScope sBPlace) [] [("times", .int 1)] f62 (plFd DK dc62 pm62 an62 cd62 ct62) := ⟨⟨_, _, _, _, _, _, _, _, _, _, rfl, l62, q62, .inl ⟨rfl, rfl⟩, .inr ⟨DK, rfl, fun q hq => by cases List.mem_singleton.mp hq; exact ⟨_, kw, _, rfl⟩⟩⟩, k62⟩
  obtain ⟨vP, rvP, bP⟩ := place_one FP
  have F63 := fun_mk (st := sBAct) l63 q63 k63
  have b63 := F63.binds (ps := ["self", "word"]) fun _ _ _ _ _ _ us hl => match us, hl with | [_, _], _ => rfl
  have F64 := fun_mk (st := sBFirst) l64 q64 k64
  have b64 := F64.binds (ps := ["self", "place"]) fun _ _ _ _ _ _ us hl => match us, hl with | [_, _], _ => rfl
  have F65 := fun_mk (st := sBxMach) l65 q65 k65
  have b65 := F65.binds (ps := ["self", "places"]) fun _ _ _ _ _ _ us hl => match us, hl with | [_, _], _ => rfl
  have F66 := fun_mk (st := sBxAnd) l66 q66 k66
  have b66 := F66.binds (ps := ["self", "other"]) fun _ _ _ _ _ _ us hl => match us, hl with | [_, _], _ => rfl
  have F67 := fun_mk (st := sBLen) l67 q67 k67
  have b67 := F67.binds (ps := ["self"]) fun _ _ _ _ _ _ us hl => match us, hl with | [_], _ => rfl
  refine ⟨PySem.W.fnOf "law" "law" (defArgs sLw) (defBody sLw) (defScope sLw) .none kV47 dc47 pm47 an47 (.ref oL) ct47, [(oL, PL), (oR, PR), (oS, PS), (oB, PB), (oM, PM), (oN, PN)], spLw K [(PL, qLw), (PR, qRt), (PS, qSC), (PB, qBC), (PM, qMC), (PN, qStep)], ?_, fun s v => .of_eq rfl, fun H a ns hl hT hS => ⟨a, ns, rfl, hS, hl, ?_, fun _ => rfl⟩, fun base _ _ hB => ?_⟩
  · intro p hp
    simp only [List.mem_cons, List.not_mem_nil, or_false] at hp
    rcases hp with rfl | rfl | rfl | rfl | rfl | rfl
    · exact ⟨hPL, nPL, PySem.W.codeHd_of_K X hCL⟩
    · exact ⟨hPR, nPR, PySem.W.codeHd_of_K X hCR⟩
    · exact ⟨hPS, nPS, PySem.W.codeHd_of_K X hCS⟩
    · exact ⟨hPB, nPB, PySem.W.codeHd_of_K X hCB⟩
    · exact ⟨hPM, nPM, PySem.W.codeHd_of_K X hCM⟩
    · exact ⟨hPN, nPN, PySem.W.codeHd_of_K X hCN⟩
  · intro p hp
    simp only [List.mem_cons, List.not_mem_nil, or_false] at hp
    rcases hp with rfl | rfl | rfl | rfl | rfl | rfl
    · exact LamX.TabS.nil (hT _ (.head _))
    · exact LamX.TabS.nil (hT _ (.tail _ (.head _)))
    · exact LamX.TabS.nil (hT _ (.tail _ (.tail _ (.head _))))
    · exact LamX.TabS.nil (hT _ (.tail _ (.tail _ (.tail _ (.head _)))))
    · exact LamX.TabS.nil (hT _ (.tail _ (.tail _ (.tail _ (.tail _ (.head _))))))
    · exact LamX.TabS.nil (hT _ (.tail _ (.tail _ (.tail _ (.tail _ (.tail _ (.head _)))))))
  have TBL : LamX.TabB base mg oL PL := hB _ (.head _)
  have mL : (PL, qLw) ∈ ([(PL, qLw), (PR, qRt), (PS, qSC), (PB, qBC), (PM, qMC), (PN, qStep)] : List (Addr × Str)) := (.head _)
  have UL := uniq_nd (T := [(PL, qLw), (PR, qRt), (PS, qSC), (PB, qBC), (PM, qMC), (PN, qStep)]) nd mL
  have TBR : LamX.TabB base mg oR PR := hB _ (.tail _ (.head _))
  have mR : (PR, qRt) ∈ ([(PL, qLw), (PR, qRt), (PS, qSC), (PB, qBC), (PM, qMC), (PN, qStep)] : List (Addr × Str)) := (.tail _ (.head _))
  have UR := uniq_nd (T := [(PL, qLw), (PR, qRt), (PS, qSC), (PB, qBC), (PM, qMC), (PN, qStep)]) nd mR
  have TBS : LamX.TabB base mg oS PS := hB _ (.tail _ (.tail _ (.head _)))
  have mS : (PS, qSC) ∈ ([(PL, qLw), (PR, qRt), (PS, qSC), (PB, qBC), (PM, qMC), (PN, qStep)] : List (Addr × Str)) := (.tail _ (.tail _ (.head _)))
  have US := uniq_nd (T := [(PL, qLw), (PR, qRt), (PS, qSC), (PB, qBC), (PM, qMC), (PN, qStep)]) nd mS
  have TBB : LamX.TabB base mg oB PB := hB _ (.tail _ (.tail _ (.tail _ (.head _))))
  have mB : (PB, qBC) ∈ ([(PL, qLw), (PR, qRt), (PS, qSC), (PB, qBC), (PM, qMC), (PN, qStep)] : List (Addr × Str)) := (.tail _ (.tail _ (.tail _ (.head _))))
  have UB := uniq_nd (T := [(PL, qLw), (PR, qRt), (PS, qSC), (PB, qBC), (PM, qMC), (PN, qStep)]) nd mB
  have TBM : LamX.TabB base mg oM PM := hB _ (.tail _ (.tail _ (.tail _ (.tail _ (.head _)))))
  have mM : (PM, qMC) ∈ ([(PL, qLw), (PR, qRt), (PS, qSC), (PB, qBC), (PM, qMC), (PN, qStep)] : List (Addr × Str)) := (.tail _ (.tail _ (.tail _ (.tail _ (.head _)))))
  have UM := uniq_nd (T := [(PL, qLw), (PR, qRt), (PS, qSC), (PB, qBC), (PM, qMC), (PN, qStep)]) nd mM
  have TBN : LamX.TabB base mg oN PN := hB _ (.tail _ (.tail _ (.tail _ (.tail _ (.tail _ (.head _))))))
  have mN : (PN, qStep) ∈ ([(PL, qLw), (PR, qRt), (PS, qSC), (PB, qBC), (PM, qMC), (PN, qStep)] : List (Addr × Str)) := (.tail _ (.tail _ (.tail _ (.tail _ (.tail _ (.head _))))))
  have UN := uniq_nd (T := [(PL, qLw), (PR, qRt), (PS, qSC), (PB, qBC), (PM, qMC), (PN, qStep)]) nd mN
  have G2 : FnOk l.prog w K mg base CX0 2 f2 (PySem.W.fnOf "is_number" "is_number" (defArgs sIsNum) (defBody sIsNum) (defScope sIsNum) .none kV2 dc2 pm2 an2 cd2 ct2) ["value", "least", "most"] (spNum2) := ok_num2 F2 T A1
  have G3 : FnOk l.prog w K mg base CX0 3 f3 (PySem.W.fnOf "need_number" "need_number" (defArgs sNeedNum) (defBody sNeedNum) (defScope sNeedNum) .none kV3 dc3 pm3 an3 cd3 ct3) ["value", "least", "most"] (spNeedNum) := ok_neednum F3 T A1 A2
  have G4 : FnOk l.prog w K mg base CX0 1 f4 (PySem.W.fnOf "ascends" "ascends" (defArgs sAsc) (defBody sAsc) (defScope sAsc) .none kV4 dc4 pm4 an4 cd4 ct4) ["values"] (spAscT K) := ok_ascT F4 T
  have G5 : FnOk l.prog w K mg base CX0 3 f5 (PySem.W.fnOf "is_ascending" "is_ascending" (defArgs sIsAsc) (defBody sIsAsc) (defScope sIsAsc) .none kV5 dc5 pm5 an5 cd5 ct5) ["value", "many"] (spIsAsc K) := ok_isasc F5 T A2 G2 A4 G4
  have G7 : FnOk l.prog w K mg base CX0 3 f7 (PySem.W.fnOf "_is_row" "_is_row" (defArgs sIsRow) (defBody sIsRow) (defScope sIsRow) .none kV7 dc7 pm7 an7 cd7 ct7) ["value", "width", "many"] (spRow K) := ok_row F7 T A2 G2
  have G6 : FnOk l.prog w K mg base CX0 4 f6 (PySem.W.fnOf "is_table" "is_table" (defArgs sIsTab) (defBody sIsTab) (defScope sIsTab) .none kV6 dc6 pm6 an6 cd6 ct6) ["value", "width", "most"] (spTab K) := ok_table F6 T A7 G7
  have G9 : FnOk l.prog w K mg base CX0 1 f9 (PySem.W.fnOf "is_word" "is_word" (defArgs sIsWord) (defBody sIsWord) (defScope sIsWord) .none kV9 dc9 pm9 an9 cd9 ct9) ["value"] (spIsWord K) := ok_isword F9 T
  have G8 : FnOk l.prog w K mg base CX0 2 f8 (PySem.W.fnOf "is_letters" "is_letters" (defArgs sIsLet) (defBody sIsLet) (defScope sIsLet) .none kV8 dc8 pm8 an8 cd8 ct8) ["value"] (spIsLet K) := ok_islet F8 T A9 A4
  have G11 : FnOk l.prog w K mg base CX0 3 f11 (PySem.W.fnOf "need_letters" "need_letters" (defArgs sNeedLet) (defBody sNeedLet) (defScope sNeedLet) .none kV11 dc11 pm11 an11 cd11 ct11) ["letters"] (spNeedLet) := ok_needlet F11 A8 G8
  have G51 : FnOk l.prog w K mg base CX0 1 f51 (PySem.W.fnOf "__init__" "TooMany.__init__" (defArgs sTMI) (defBody sTMI) (defScope sTMI) .none kV51 dc51 pm51 an51 cd51 ct51) ["self", "limit"] (WE.spErrI cT "limit") := ok_tmi F51 ET EIT
  have G52 : FnOk l.prog w K mg base CX0 1 f52 (PySem.W.fnOf "__init__" "InvalidNumber.__init__" (defArgs sINI) (defBody sINI) (defScope sINI) .none kV52 dc52 pm52 an52 cd52 ct52) ["self", "value"] (WE.spErrI cN "value") := ok_ini F52 EN EIN
  have RN : RsN l.prog w K mg base cN := ⟨EN, ⟨_, EIN, _, G52, b52⟩, PySem.W.mg_of X G geN, EN.sb, teN⟩
  have RT : RsT l.prog w K mg base cT := ⟨ET, ⟨_, EIT, _, G51, b51⟩, PySem.W.mg_of X G geT, ET.sb, teT⟩
  have JhIV : FnOk l.prog w K mg base CX0 1 f1 (PySem.W.fnOf "is_integer" "is_integer" (defArgs sIsInt) (defBody sIsInt) (defScope sIsInt) .none kV1 dc1 pm1 an1 cd1 ct1) ["value"] (spIntV) := ok_intV F1 T
  have hIV := has_of A1 JhIV
  have JhNV : FnOk l.prog w K mg base CX0 2 f2 (PySem.W.fnOf "is_number" "is_number" (defArgs sIsNum) (defBody sIsNum) (defScope sIsNum) .none kV2 dc2 pm2 an2 cd2 ct2) ["value", "least", "most"] (spNumV) := ok_numV F2 hIV
  have hNV := has_of A2 JhNV
  have JhNN : FnOk l.prog w K mg base (L2.CX l.prog w) 3 f3 (PySem.W.fnOf "need_number" "need_number" (defArgs sNeedNum) (defBody sNeedNum) (defScope sNeedNum) .none kV3 dc3 pm3 an3 cd3 ct3) ["value", "least", "most"] (spNN cN) := ok_nn F3 hNV RN
  have hNN := has_of A3 JhNN
  have hIL := has_of A8 G8
  have JhNL : FnOk l.prog w K mg base (L2.CX l.prog w) 3 f11 (PySem.W.fnOf "need_letters" "need_letters" (defArgs sNeedLet) (defBody sNeedLet) (defScope sNeedLet) .none kV11 dc11 pm11 an11 cd11 ct11) ["letters"] (spNLx K cO) := ok_nlx F11 hIL RsO
  have hNL := has_of A11 JhNL
  have hIW := has_of A9 G9
  have JhNW : FnOk l.prog w K mg base (L2.CX l.prog w) 2 f12 (PySem.W.fnOf "need_word" "need_word" (defArgs sNeedWord) (defBody sNeedWord) (defScope sNeedWord) .none kV12 dc12 pm12 an12 cd12 ct12) ["word"] (spNWx K cW) := ok_nwx F12 hIW RsW
  have hNW := has_of A12 JhNW
  have JhOv : FnOk l.prog w K mg base CX0 1 f10 (PySem.W.fnOf "is_over" "is_over" (defArgs sIsOver) (defBody sIsOver) (defScope sIsOver) .none kV10 dc10 pm10 an10 cd10 ct10) ["letters", "word"] (spOvr) := ok_ovr F10 T
  have hOv := has_of A10 JhOv
  have JhNO : FnOk l.prog w K mg base (L2.CX l.prog w) 2 f13 (PySem.W.fnOf "need_over" "need_over" (defArgs sNeedOver) (defBody sNeedOver) (defScope sNeedOver) .none kV13 dc13 pm13 an13 cd13 ct13) ["letters", "word"] (spNOx cO) := ok_nox F13 hOv RsO
  have hNO := has_of A13 JhNO
  have JTN : FnOk l.prog w K mg base CX0 4 f6 (PySem.W.fnOf "is_table" "is_table" (defArgs sIsTab) (defBody sIsTab) (defScope sIsTab) .none kV6 dc6 pm6 an6 cd6 ct6) ["value", "width", "most"] (spTabN K) := ok_tabN F6 T
  have hTb := has_of A6 (fnOk_or G6 JTN)
  have JAN : FnOk l.prog w K mg base CX0 3 f5 (PySem.W.fnOf "is_ascending" "is_ascending" (defArgs sIsAsc) (defBody sIsAsc) (defScope sIsAsc) .none kV5 dc5 pm5 an5 cd5 ct5) ["value", "many"] (spAscN K) := ok_ascN F5 T
  have hAs := has_of A5 (fnOk_or G5 JAN)
  have JhNM : FnOk l.prog w K mg base (L2.CX l.prog w) 1 f14 (PySem.W.fnOf "need_machines" "need_machines" (defArgs sNeedMs) (defBody sNeedMs) (defScope sNeedMs) .none kV14 dc14 pm14 an14 cd14 ct14) ["machines"] (spNMx K CM cM) := ok_nmx F14 T MM YM NCm RsM
  have hNM := has_of A14 JhNM
  have JhNB : FnOk l.prog w K mg base (L2.CX l.prog w) 1 f16 (PySem.W.fnOf "need_box" "need_box" (defArgs sNeedBox) (defBody sNeedBox) (defScope sNeedBox) .none kV16 dc16 pm16 an16 cd16 ct16) ["box"] (spNBx C cB) := ok_nbx F16 T M Y NCb RsB
  have hNB := has_of A16 JhNB
  have JhNS : FnOk l.prog w K mg base (L2.CX l.prog w) 1 f15 (PySem.W.fnOf "need_same_letters" "need_same_letters" (defArgs sSame) (defBody sSame) (defScope sSame) .none kV15 dc15 pm15 an15 cd15 ct15) ["one", "other"] (spNSx cO) := ok_nsx F15 RsO
  have hNS := has_of A15 JhNS
  have JhND : FnOk l.prog w K mg base (L2.CX l.prog w) 2 f30 (PySem.W.fnOf "_need" "_need" (defArgs sNeedAll) (defBody sNeedAll) (defScope sNeedAll) .none kV30 dc30 pm30 an30 cd30 ct30) ["machines", "box"] (spNAx K CM C cM cB) := ok_nax F30 hNM hNB
  have hND := has_of A30 JhND
  have G59 : FnOk l.prog w K mg base CX0 1 f59 (PySem.W.fnOf "letters" "Box.letters" (defArgs sBGet) (defBody sBGet) (defScope sBGet) .none kV59 dc59 pm59 an59 cd59 ct59) ["self"] (getSp C "_letters") := fn_getter (N := ["self"]) l59 q59 ⟨rfl, rfl, rfl, by decide +kernel, rfl, by decide +kernel, by decide +kernel⟩ rfl rfl cl nL
  have G60 : FnOk l.prog w K mg base CX0 1 f60 (PySem.W.fnOf "letters" "Machine.letters" (defArgs sMLet) (defBody sMLet) (defScope sMLet) .none kV60 dc60 pm60 an60 cd60 ct60) ["self"] (getSp CM "_letters") := fn_getter (N := ["self"]) l60 q60 ⟨rfl, rfl, rfl, by decide +kernel, rfl, by decide +kernel, by decide +kernel⟩ rfl rfl clM nML
  have JhLS : FnOk l.prog w K mg base (L2.CX l.prog w) 3 f31 (PySem.W.fnOf "_need_letters" "_need_letters" (defArgs sNeedLs) (defBody sNeedLs) (defScope sNeedLs) .none kV31 dc31 pm31 an31 cd31 ct31) ["machines", "box"] (spNLs K CM C cO) := ok_nls F31 MM M Rl G59 b59 Rml G60 b60 hNS
  have hLS := has_of A31 JhLS
  have JhSm : FnOk l.prog w K mg base (L2.CX l.prog w) 2 f32 (PySem.W.fnOf "_need_some" "_need_some" (defArgs sNeedSome) (defBody sNeedSome) (defScope sNeedSome) .none kV32 dc32 pm32 an32 cd32 ct32) ["machines"] (spNSm K CM cM) := ok_nsm F32 T ⟨_, PySem.W.mg_of X G v_MOST_MACHINES⟩ hNM RsM
  have hSm := has_of A32 JhSm
  have G48 : FnOk l.prog w K mg base CX0 1 f48 (PySem.W.fnOf "__init__" "Made.__init__" (defArgs sMadeI) (defBody sMadeI) (defScope sMadeI) .none kV48 dc48 pm48 an48 cd48 ct48) ["self", "rows"] (spMadeI cD) := ok_madei l48 q48 M
  have G49 : FnOk l.prog w K mg base CX0 3 f49 (PySem.W.fnOf "__init__" "Box.__init__" (defArgs sBoxI) (defBody sBoxI) (defScope sBoxI) .none kV49 dc49 pm49 an49 cd49 ct49) ["self", "letters", "table"] (spBoxI C cD) := ok_boxi l49 q49 T M A8 G8
  have GBT : FnOk l.prog w K mg base CX0 5 f49 (PySem.W.fnOf "__init__" "Box.__init__" (defArgs sBoxI) (defBody sBoxI) (defScope sBoxI) .none kV49 dc49 pm49 an49 cd49 ct49) ["self", "letters", "table"] (spBoxT C) := ok_boxt l49 q49 T M kt ⟨_, PySem.W.mg_of X G vMAX_PLACES⟩ A8 G8 A6 G6
  have GBX : FnOk l.prog w K mg base (L2.CX l.prog w) 5 f49 (PySem.W.fnOf "__init__" "Box.__init__" (defArgs sBoxI) (defBody sBoxI) (defScope sBoxI) .none kV49 dc49 pm49 an49 cd49 ct49) ["self", "letters", "table"] (spBoxX K C cB) := ok_boxx F49 T (PySem.W.mg_of X G gd) NCd ⟨_, PySem.W.mg_of X G vMAX_PLACES⟩ hIL hTb RsB
  have G50 : FnOk l.prog w K mg base (L2.CX l.prog w) 5 f50 (PySem.W.fnOf "__init__" "Machine.__init__" (defArgs sMInit) (defBody sMInit) (defScope sMInit) (.ref t50) kV50 dc50 pm50 an50 cd50 ct50) ["self", "letters", "table", "ends"] (spMInit K CM cM) := ok_minit l50 q50 T MM A8 G8 A6 G6 A5 G5
  have MD : Mk K cD f48 := ⟨mkd, id, nid, kCd⟩
  have MI : Mk K C f49 := ⟨mkb, ib, nib, kCb⟩
  have MIM : Mk K CM f50 := ⟨mkm, im, nim, kCm⟩
  have GEI : FnOk l.prog w K mg base CX0 3 f0 (PySem.W.fnOf "explored" "explored" (defArgs sExpl) (defBody sExpl) (defScope sExpl) (.ref t0) kV0 dc0 pm0 an0 cd0 ct0) ["signs", "start", "step", "most"] (spExpl l.prog w K mg base kitI 2) := ok_expl l0 q0 T
  have GER : FnOk l.prog w K mg base (L2.CX l.prog w) 5 f0 (PySem.W.fnOf "explored" "explored" (defArgs sExpl) (defBody sExpl) (defScope sExpl) (.ref t0) kV0 dc0 pm0 an0 cd0 ct0) ["signs", "start", "step", "most"] (spExplR l.prog w K mg base kitI 2 cT) := ok_explR l0 q0 T RT
  have GGI : FnOk l.prog w K mg base CX0 5 f17 (PySem.W.fnOf "_grown" "_grown" (defArgs sGrown) (defBody sGrown) (defScope sGrown) .none kV17 dc17 pm17 an17 cd17 ct17) ["letters", "start", "step"] (spGrown l.prog w K mg base kitI 2 cD) := ok_grown F17 M g0 k0 GEI MD G48 b48 b0
  have GGR : FnOk l.prog w K mg base (L2.CX l.prog w) 6 f17 (PySem.W.fnOf "_grown" "_grown" (defArgs sGrown) (defBody sGrown) (defScope sGrown) .none kV17 dc17 pm17 an17 cd17 ct17) ["letters", "start", "step"] (spGrownR l.prog w K mg base kitI 2 cT) := ok_grownR F17 M g0 k0 GER MD G48 b48 b0
  have G19 : FnOk l.prog w K mg base CX0 1 f19 (PySem.W.fnOf "_one_more" "_one_more" (defArgs sOneM) (defBody sOneM) (defScope sOneM) .none kV19 dc19 pm19 an19 cd19 ct19) ["number", "cap", "modulus"] (spOneM) := ok_onem F19
  have G18 : FnOk l.prog w K mg base CX0 6 f18 (PySem.W.fnOf "_counting" "_counting" (defArgs sCount) (defBody sCount) (defScope sCount) .none kV18 dc18 pm18 an18 (.ref oN) ct18) ["letters", "cap", "modulus"] (spCounting [(PL, qLw), (PR, qRt), (PS, qSC), (PB, qBC), (PM, qMC), (PN, qStep)] cD) := ok_counting (C := C) l18 q18 TBN mN UN T A19 G19 A17 GGI
  have GCR : FnOk l.prog w K mg base (L2.CX l.prog w) 7 f18 (PySem.W.fnOf "_counting" "_counting" (defArgs sCount) (defBody sCount) (defScope sCount) .none kV18 dc18 pm18 an18 (.ref oN) ct18) ["letters", "cap", "modulus"] (spCountR [(PL, qLw), (PR, qRt), (PS, qSC), (PB, qBC), (PM, qMC), (PN, qStep)] cT) := ok_countR l18 q18 TBN mN UN T A19 G19 A17 GGR
  have GCl : FnOk l.prog w K mg base CX0 7 f58 (PySem.W.fnOf "clerk" "Box.clerk" (defArgs sClerkM) (defBody sClerkM) (defScope sClerkM) .none kV58 dc58 pm58 an58 cd58 ct58) ["cls", "letters", "cap", "modulus"] (spClerk [(PL, qLw), (PR, qRt), (PS, qSC), (PB, qBC), (PM, qMC), (PN, qStep)] C) := ok_clerk l58 q58 ⟨_, PySem.W.mg_of X G v_MAX_CAP⟩ ⟨_, PySem.W.mg_of X G v_MAX_MODULUS⟩ A11 G11 A3 G3 A18 G18 MI G49 b49
  have GCk : FnOk l.prog w K mg base (L2.CX l.prog w) 8 f58 (PySem.W.fnOf "clerk" "Box.clerk" (defArgs sClerkM) (defBody sClerkM) (defScope sClerkM) .none kV58 dc58 pm58 an58 cd58 ct58) ["cls", "letters", "cap", "modulus"] (spClerkR [(PL, qLw), (PR, qRt), (PS, qSC), (PB, qBC), (PM, qMC), (PN, qStep)] C cT) := ok_clerkR l58 q58 ⟨_, PySem.W.mg_of X G v_MAX_CAP⟩ ⟨_, PySem.W.mg_of X G v_MAX_MODULUS⟩ A11 G11 A3 G3 A18 GCR MI G49 b49
  have G53 : FnOk l.prog w K mg base (L2.CX l.prog w) 4 f53 (PySem.W.fnOf "window" "Box.window" (defArgs sWindowM) (defBody sWindowM) (defScope sWindowM) .none kV53 dc53 pm53 an53 cd53 ct53) ["cls", "letters", "size"] (spCM2 K C cO cN 0 4) := ok_windowX F53 ⟨_, PySem.W.mg_of X G v_MAX_SIZE⟩ hNL hNN
  have G54 : FnOk l.prog w K mg base (L2.CX l.prog w) 4 f54 (PySem.W.fnOf "heads" "Box.heads" (defArgs sHeadsM) (defBody sHeadsM) (defScope sHeadsM) .none kV54 dc54 pm54 an54 cd54 ct54) ["cls", "letters", "size"] (spCM2 K C cO cN 0 4) := ok_headsX F54 ⟨_, PySem.W.mg_of X G v_MAX_SIZE⟩ hNL hNN
  have G55 : FnOk l.prog w K mg base (L2.CX l.prog w) 4 f55 (PySem.W.fnOf "pieces" "Box.pieces" (defArgs sPiecesM) (defBody sPiecesM) (defScope sPiecesM) .none kV55 dc55 pm55 an55 cd55 ct55) ["cls", "letters", "most"] (spCM2 K C cO cN 0 3) := ok_piecesX F55 ⟨_, PySem.W.mg_of X G v_MAX_PIECES⟩ hNL hNN
  have G56 : FnOk l.prog w K mg base (L2.CX l.prog w) 4 f56 (PySem.W.fnOf "caps" "Box.caps" (defArgs sCapsM) (defBody sCapsM) (defScope sCapsM) .none kV56 dc56 pm56 an56 cd56 ct56) ["cls", "letters", "most"] (spCM2 K C cO cN 0 9) := ok_capsX F56 ⟨_, PySem.W.mg_of X G v_MAX_CAP⟩ hNL hNN
  have G57 : FnOk l.prog w K mg base (L2.CX l.prog w) 4 f57 (PySem.W.fnOf "rests" "Box.rests" (defArgs sRestsM) (defBody sRestsM) (defScope sRestsM) .none kV57 dc57 pm57 an57 cd57 ct57) ["cls", "letters", "modulus"] (spCM2 K C cO cN 1 12) := ok_restsX F57 ⟨_, PySem.W.mg_of X G v_MAX_MODULUS⟩ hNL hNN
  have G58 : FnOk l.prog w K mg base (L2.CX l.prog w) 4 f58 (PySem.W.fnOf "clerk" "Box.clerk" (defArgs sClerkM) (defBody sClerkM) (defScope sClerkM) .none kV58 dc58 pm58 an58 cd58 ct58) ["cls", "letters", "cap", "modulus"] (spCM3 K C cO cN) := ok_clerkX F58 ⟨_, PySem.W.mg_of X G v_MAX_CAP⟩ ⟨_, PySem.W.mg_of X G v_MAX_MODULUS⟩ hNL hNN
  have G61 : FnOk l.prog w K mg base (L2.CX l.prog w) 3 f61 (PySem.W.fnOf "__call__" "Box.__call__" (defArgs sBCall) (defBody sBCall) (defScope sBCall) .none kV61 dc61 pm61 an61 cd61 ct61) ["self", "word"] (spBCx K C cW cO) := ok_bcx F61 M hNW hNO
  have G63 : FnOk l.prog w K mg base (L2.CX l.prog w) 3 f63 (PySem.W.fnOf "action" "Box.action" (defArgs sBAct) (defBody sBAct) (defScope sBAct) .none kV63 dc63 pm63 an63 cd63 ct63) ["self", "word"] (spBCx K C cW cO) := ok_actx F63 M hNW hNO
  have G62 : FnOk l.prog w K mg base (L2.CX l.prog w) 4 f62 (PySem.W.fnOf "place" "Box.place" (defArgs sBPlace) (defBody sBPlace) (defScope sBPlace) .none (.ref DK) dc62 pm62 an62 cd62 ct62) ["self", "word", "start", "times"] (spPlx K C cW cO cN) := ok_plx FP T M ⟨_, PySem.W.mg_of X G vMAX_TIMES⟩ hNW hNO hNN
  have G64 : FnOk l.prog w K mg base (L2.CX l.prog w) 4 f64 (PySem.W.fnOf "first_word" "Box.first_word" (defArgs sBFirst) (defBody sBFirst) (defScope sBFirst) .none kV64 dc64 pm64 an64 cd64 ct64) ["self", "place"] (spFwx C cN) := ok_fwx F64 T M hNN
  have G65 : FnOk l.prog w K mg base (L2.CX l.prog w) 4 f65 (PySem.W.fnOf "machine" "Box.machine" (defArgs sBxMach) (defBody sBxMach) (defScope sBxMach) .none kV65 dc65 pm65 an65 cd65 ct65) ["self", "places"] (spBMx K C cO) := ok_bmx F65 T M hAs RsO
  have G66 : FnOk l.prog w K mg base (L2.CX l.prog w) 3 f66 (PySem.W.fnOf "__and__" "Box.__and__" (defArgs sBxAnd) (defBody sBxAnd) (defScope sBxAnd) .none kV66 dc66 pm66 an66 cd66 ct66) ["self", "other"] (spBAx C cB cO) := ok_bax F66 M Rl G59 b59 hNB hNS
  have G67 : FnOk l.prog w K mg base CX0 1 f67 (PySem.W.fnOf "__len__" "Box.__len__" (defArgs sBLen) (defBody sBLen) (defScope sBLen) .none kV67 dc67 pm67 an67 cd67 ct67) ["self"] (spBLen C) := ok_blen F67 T M
  have JhPl : FnOk l.prog w K mg base (L2.CX l.prog w) 4 f20 (PySem.W.fnOf "places" "places" (defArgs sPlaces) (defBody sPlaces) (defScope sPlaces) .none kV20 dc20 pm20 an20 cd20 ct20) ["machine", "box"] (spPl1 CM C cM cB cO) := ok_pl1 F20 hND hLS
  have hPl := has_of A20 JhPl
  have JhAp : FnOk l.prog w K mg base (L2.CX l.prog w) 4 f23 (PySem.W.fnOf "alike_pair" "alike_pair" (defArgs sAlikeP) (defBody sAlikeP) (defScope sAlikeP) .none kV23 dc23 pm23 an23 cd23 ct23) ["one", "other", "box"] (spAp CM C cM cB cO) := ok_apx F23 hND hLS
  have hAp := has_of A23 JhAp
  have JhIa : FnOk l.prog w K mg base (L2.CX l.prog w) 4 f24 (PySem.W.fnOf "is_alike_pair" "is_alike_pair" (defArgs sIsAlikeP) (defBody sIsAlikeP) (defScope sIsAlikeP) .none kV24 dc24 pm24 an24 cd24 ct24) ["one", "other", "box", "value"] (spApV CM C cM cB cO) := ok_iapx F24 hND hLS
  have hIa := has_of A24 JhIa
  have JhIp : FnOk l.prog w K mg base (L2.CX l.prog w) 4 f27 (PySem.W.fnOf "is_apart_paper" "is_apart_paper" (defArgs sIsApartP) (defBody sIsApartP) (defScope sIsApartP) .none kV27 dc27 pm27 an27 cd27 ct27) ["one", "other", "box", "value"] (spApV CM C cM cB cO) := ok_iax F27 hND hLS
  have hIp := has_of A27 JhIp
  have JhWt : FnOk l.prog w K mg base (L2.CX l.prog w) 4 f21 (PySem.W.fnOf "word_to" "word_to" (defArgs sWordTo) (defBody sWordTo) (defScope sWordTo) .none kV21 dc21 pm21 an21 cd21 ct21) ["machine", "box", "place"] (spWt CM C cM cB cO cN) := ok_wt F21 T hND hLS hNN a67 n67 (G67.raw b67 .nil)
  have hWt := has_of A21 JhWt
  have JhSn : FnOk l.prog w K mg base (L2.CX l.prog w) 4 f25 (PySem.W.fnOf "is_seen" "is_seen" (defArgs sIsSeen) (defBody sIsSeen) (defScope sIsSeen) .none kV25 dc25 pm25 an25 cd25 ct25) ["machine", "box", "word"] (spIsSn CM C cM cB cW) := ok_isn F25 hND hNW
  have hSn := has_of A25 JhSn
  have JhTl : FnOk l.prog w K mg base (L2.CX l.prog w) 5 f22 (PySem.W.fnOf "tells_apart" "tells_apart" (defArgs sTells) (defBody sTells) (defScope sTells) .none kV22 dc22 pm22 an22 cd22 ct22) ["one", "other", "box"] (spAp CM C cM cB cO) := ok_tlx F22 hAp
  have hTl := has_of A22 JhTl
  have JhPa : FnOk l.prog w K mg base (L2.CX l.prog w) 5 f26 (PySem.W.fnOf "apart_paper" "apart_paper" (defArgs sApartP) (defBody sApartP) (defScope sApartP) .none kV26 dc26 pm26 an26 cd26 ct26) ["one", "other", "box"] (spAp CM C cM cB cO) := ok_app F26 hAp
  have hPa := has_of A26 JhPa
  have JhGs : FnOk l.prog w K mg base (L2.CX l.prog w) 4 f28 (PySem.W.fnOf "guesses_of" "guesses_of" (defArgs sGuesses) (defBody sGuesses) (defScope sGuesses) .none kV28 dc28 pm28 an28 cd28 ct28) ["box", "machines", "word"] (spGs K CM C cM cB cW) := ok_gsx F28 hNB hSm hNW
  have hGs := has_of A28 JhGs
  have JhBg : FnOk l.prog w K mg base (L2.CX l.prog w) 4 f29 (PySem.W.fnOf "box_groups" "box_groups" (defArgs sBGroups) (defBody sBGroups) (defScope sBGroups) .none kV29 dc29 pm29 an29 cd29 ct29) ["box", "machines"] (spBg K CM C cM cB cO) := ok_bgx F29 hNB hSm hLS
  have hBg := has_of A29 JhBg
  have Lb : Lib l.prog w K mg base c CM C (.type "type") := ⟨⟨rd, ga⟩, PySem.W.mg_of X G gb, cl, ⟨pW, _, ⟨cmW, ⟨_, crW⟩, cfW⟩, G53.raw b53 .nil⟩, ⟨pH, _, ⟨cmH, ⟨_, crH⟩, cfH⟩, G54.raw b54 .nil⟩, ⟨pE, _, ⟨cmE, ⟨_, crE⟩, cfE⟩, G55.raw b55 .nil⟩, ⟨pA, _, ⟨cmA, ⟨_, crA⟩, cfA⟩, G56.raw b56 .nil⟩, ⟨pR, _, ⟨cmR, ⟨_, crR⟩, cfR⟩, G57.raw b57 .nil⟩, ⟨pK, _, ⟨cmK, ⟨_, crK⟩, cfK⟩, G58.raw b58 .nil⟩, ⟨_, ⟨a61, n61, fiC⟩, G61.raw b61 .nil⟩, ⟨_, _, vP, ⟨a62, n62, k62⟩, G62, place_kbn, rvP, bP⟩, ⟨_, _, ⟨a63, n63, k63⟩, G63, b63⟩, ⟨_, _, ⟨a64, n64, k64⟩, G64, b64⟩, ⟨_, _, ⟨a65, n65, k65⟩, G65, b65⟩, ⟨_, a66, n66, G66.raw b66 .nil⟩, sf, nor, all_false sub, ⟨_, _, MI, GBX, b49⟩, ⟨_, _, MI, GBT, b49⟩, hPl, hWt, hTl, hAp, hIa, hPa, hIp, hSn, hGs, hBg⟩
  have LL : LibL l.prog w K mg base c C (.type "type") [(PL, qLw), (PR, qRt), (PS, qSC), (PB, qBC), (PM, qMC), (PN, qStep)] := ⟨⟨pK, _, ⟨cmK, ⟨_, crK⟩, cfK⟩, GCk.raw b58 .nil⟩, ⟨pK, _, ⟨cmK, ⟨_, crK⟩, cfK⟩, GCl.raw b58 .nil⟩, ⟨_, a67, n67, G67.raw b67 .nil⟩, ⟨_, PySem.W.mg_of X G vMAX_MADE⟩, ⟨_, PySem.W.mg_of X G vMAX_PLACES⟩⟩
  have G33 : FnOk l.prog w K mg base CX0 1 f33 (PySem.W.fnOf "_law_dice" "_law_dice" (defArgs sDice) (defBody sDice) (defScope sDice) .none kV33 dc33 pm33 an33 cd33 ct33) ["_law_script", "_law_at"] (spDice K) := ok_dice F33 T.dice
  have G35 : FnOk l.prog w K mg base CX0 2 f35 (PySem.W.fnOf "_law_one_of" "_law_one_of" (defArgs sOne) (defBody sOne) (defScope sOne) .none kV35 dc35 pm35 an35 cd35 ct35) ["_law_dice_here", "_law_items"] (spOne) := ok_one F35 T.dice A34.g A34.F A34.b
  have G37 : FnOk l.prog w K mg base CX0 3 f37 (PySem.W.fnOf "_law_table" "_law_table" (defArgs sLTab) (defBody sLTab) (defScope sLTab) .none kV37 dc37 pm37 an37 cd37 ct37) ["_law_dice_here", "_law_letters", "_law_size", "_law_sorts"] (spLTab) := ok_ltab F37 T A34 A35 A36
  have G38 : FnOk l.prog w K mg base CX0 4 f38 (PySem.W.fnOf "_law_machine" "_law_machine" (defArgs sLMac) (defBody sLMac) (defScope sLMac) .none kV38 dc38 pm38 an38 cd38 ct38) ["_law_dice_here", "_law_letters", "_law_states"] (spLMac) := ok_lmac F38 T A34 A37 G37
  have G39 : FnOk l.prog w K mg base CX0 7 f39 (PySem.W.fnOf "_law_made_machine" "_law_made_machine" (defArgs sMade) (defBody sMade) (defScope sMade) .none kV39 dc39 pm39 an39 cd39 ct39) ["_law_plain"] (spMade CM) := ok_made F39 T MM MIM G50 b50
  have G40 : FnOk l.prog w K mg base CX0 4 f40 (PySem.W.fnOf "_law_box" "_law_box" (defArgs sLBox) (defBody sLBox) (defScope sLBox) .none kV40 dc40 pm40 an40 cd40 ct40) ["_law_dice_here", "_law_letters", "_law_most"] (spLBox) := ok_lbox F40 T A34 A37 G37
  have G41 : FnOk l.prog w K mg base CX0 7 f41 (PySem.W.fnOf "_law_made_box" "_law_made_box" (defArgs sMBox) (defBody sMBox) (defScope sMBox) .none kV41 dc41 pm41 an41 cd41 ct41) ["_law_letters", "_law_table_here"] (spMBox C) := ok_mbox F41 T M MI GBT b49
  have G_HT7 : WG.FnG l.prog w K mg base  11 f42 (PySem.W.fnOf "_law_met" "_law_met" (defArgs sMet) (defBody sMet) (defScope sMet) .none kV42 dc42 pm42 an42 cd42 ct42) ["_law_call"] (spMet l.prog w K mg base c 7) := ok_met F42 TE
  have HT7 : HasG l.prog w K mg base 11 "_law_met" ["_law_call"] (spMet l.prog w K mg base c 7) := ⟨_, _, PySem.W.mg_of X G d42, k42, b42, G_HT7⟩
  have G_HT9 : WG.FnG l.prog w K mg base  13 f42 (PySem.W.fnOf "_law_met" "_law_met" (defArgs sMet) (defBody sMet) (defScope sMet) .none kV42 dc42 pm42 an42 cd42 ct42) ["_law_call"] (spMet l.prog w K mg base c 9) := ok_met F42 TE
  have HT9 : HasG l.prog w K mg base 13 "_law_met" ["_law_call"] (spMet l.prog w K mg base c 9) := ⟨_, _, PySem.W.mg_of X G d42, k42, b42, G_HT9⟩
  have G_HMC : WG.FnG l.prog w K mg base  4 f43 (PySem.W.fnOf "_law_made_calls" "_law_made_calls" (defArgs sMC) (defBody sMC) (defScope sMC) .none kV43 dc43 pm43 an43 (.ref oM) ct43) ["_law_dice_here"] (spMC l.prog w K mg base c [(PL, qLw), (PR, qRt), (PS, qSC), (PB, qBC), (PM, qMC), (PN, qStep)]) := ok_mc l43 q43 Lb TBM mM UM rp A35 G35
  have HMC : HasG l.prog w K mg base 4 "_law_made_calls" ["_law_dice_here"] (spMC l.prog w K mg base c [(PL, qLw), (PR, qRt), (PS, qSC), (PB, qBC), (PM, qMC), (PN, qStep)]) := ⟨_, _, PySem.W.mg_of X G d43, k43, b43, G_HMC⟩
  have G_HBC : WG.FnG l.prog w K mg base  8 f44 (PySem.W.fnOf "_law_box_calls" "_law_box_calls" (defArgs sBC2) (defBody sBC2) (defScope sBC2) .none kV44 dc44 pm44 an44 (.ref oB) ct44) ["_law_dice_here", "_law_letters", "_law_table_here"] (spBC l.prog w K mg base c [(PL, qLw), (PR, qRt), (PS, qSC), (PB, qBC), (PM, qMC), (PN, qStep)]) := ok_bc l44 q44 Lb TBB mB UB rp T A35 G35 A41 G41
  have HBC : HasG l.prog w K mg base 8 "_law_box_calls" ["_law_dice_here", "_law_letters", "_law_table_here"] (spBC l.prog w K mg base c [(PL, qLw), (PR, qRt), (PS, qSC), (PB, qBC), (PM, qMC), (PN, qStep)]) := ⟨_, _, PySem.W.mg_of X G d44, k44, b44, G_HBC⟩
  have G_HSC : WG.FnG l.prog w K mg base  8 f45 (PySem.W.fnOf "_law_sight_calls" "_law_sight_calls" (defArgs sSC) (defBody sSC) (defScope sSC) .none kV45 dc45 pm45 an45 (.ref oS) ct45) ["_law_dice_here", "_law_letters", "_law_table_here"] (spBC l.prog w K mg base c [(PL, qLw), (PR, qRt), (PS, qSC), (PB, qBC), (PM, qMC), (PN, qStep)]) := ok_sc l45 q45 Lb TBS mS US rp T A35 G35 A41 G41 A39 G39 A38 G38
  have HSC : HasG l.prog w K mg base 8 "_law_sight_calls" ["_law_dice_here", "_law_letters", "_law_table_here"] (spBC l.prog w K mg base c [(PL, qLw), (PR, qRt), (PS, qSC), (PB, qBC), (PM, qMC), (PN, qStep)]) := ⟨_, _, PySem.W.mg_of X G d45, k45, b45, G_HSC⟩
  have G_HRt : WG.FnG l.prog w K mg base  12 f46 (PySem.W.fnOf "_law_right" "_law_right" (defArgs sRt) (defBody sRt) (defScope sRt) .none kV46 dc46 pm46 an46 (.ref oR) ct46) ["_law_dice_here"] (spRt [(PL, qLw), (PR, qRt), (PS, qSC), (PB, qBC), (PM, qMC), (PN, qStep)]) := ok_rt l46 q46 Lb TBR mR UR A35 G35 A40 G40 HMC HBC HSC HT7
  have HRt : HasG l.prog w K mg base 12 "_law_right" ["_law_dice_here"] (spRt [(PL, qLw), (PR, qRt), (PS, qSC), (PB, qBC), (PM, qMC), (PN, qStep)]) := ⟨_, _, PySem.W.mg_of X G d46, k46, b46, G_HRt⟩
  exact ok_lw l47 q47 Lb LL TBL mL UL T A33 G33 HRt HT9
end WK
set_option Elab.async false
set_option linter.all false
set_option maxRecDepth 100000
set_option maxHeartbeats 2000000
namespace HK
open PySem PySem.Spec PyProof.Rows L2
/-- a def as it was written, at an address -/
abbrev FnT : Type := Option (Str × Str × Arguments × FuncBody × Scope × Addr × List (Str × Addr) × Addr)
def fnAt (K : PySem.W.Frag) (f : Addr) : FnT := match K.lookup f with
  | some ⟨_, _, .func d, _⟩ => some (d.name, d.qualname, d.params, d.body, d.scope, d.globals, d.closure, d.builtins)
  | _ => none
def fnIs (nm q : Str) (st : Stmt) : FnT := some (nm, q, defArgs st, .stmts (defBody st), defScope st, mainGlobals, [], builtinsNs)
/-- none: nothing stands there; an address: that -/
def isV (d : Option Addr) (v : Value) : Bool := match d, v with
  | none, .none => true
  | some a, .ref b => Nat.beq a b
  | _, _ => false
def dV : Option Addr → Value
  | none => .none
  | some a => .ref a
theorem isV_ok {d : Option Addr} {v : Value} (h : isV d v = true) : v = dV d := by
  cases d with
  | none => cases v <;> first | rfl | cases h
  | some a =>
    cases v with
    | ref b => exact congrArg Value.ref (Nat.eq_of_beq_eq_true h).symm
    | _ => cases h
/-- an address, where one is asked -/
def anyV (d : Option Addr) (v : Value) : Bool := match d with
  | none => true
  | some _ => isV d v
/-- defaults, keyword defaults, the code object of the def at f -/
def fnB (K : PySem.W.Frag) (f : Addr) (q : Str) (d k o : Option Addr) : Bool := match K.lookup f with
  | some ⟨_, _, .func fd, _⟩ => isV d fd.defaults && (anyV k fd.kwdefaults && (anyV o fd.code && PySem.W.codeIn K fd.code q))
  | _ => false
theorem fn_ok {K : PySem.W.Frag} {f : Addr} {nm q : Str} {st : Stmt} {d k o : Option Addr} (e : fnAt K f = fnIs nm q st) (c : fnB K f q d k o = true) :
    ∃ (oc kV doc pm cd ct : Value) (od an : Option Addr) (sl : Array (Option Value)), K.lookup f = some ⟨oc, od, .func (PySem.W.fnOf nm q (defArgs st) (defBody st) (defScope st) (dV d) kV doc pm an cd ct), sl⟩ ∧ PySem.W.codeIn K cd q = true ∧ (∀ a, k = some a → kV = .ref a) ∧ (∀ a, o = some a → cd = .ref a) := by
  unfold fnAt fnIs at e
  unfold fnB at c
  cases l : K.lookup f with
  | none =>
    rw [l] at c
    cases c
  | some ob =>
    obtain ⟨oc, od, dt, sl⟩ := ob
    rw [l] at c e
    cases dt with
    | func fd =>
      obtain ⟨a1, a2, a3, a4, a5, a6, a7, a8, a9, b1, b2, b3, b4, b5, b6⟩ := fd
      have e2 : (some (a1, a2, a3, a4, a5, a6, a7, b6) : FnT) = some (nm, q, defArgs st, .stmts (defBody st), defScope st, mainGlobals, [], builtinsNs) := e
      simp only [Option.some.injEq, Prod.mk.injEq] at e2
      obtain ⟨rfl, rfl, rfl, rfl, rfl, rfl, rfl, rfl⟩ := e2
      have c2 : (isV d a8 && (anyV k a9 && (anyV o b4 && PySem.W.codeIn K b4 a2))) = true := c
      obtain ⟨c3, c6⟩ := Bool.and_eq_true_iff.mp c2
      obtain ⟨c4, c7⟩ := Bool.and_eq_true_iff.mp c6
      obtain ⟨c5, c8⟩ := Bool.and_eq_true_iff.mp c7
      have e3 := isV_ok c3
      subst e3
      refine ⟨oc, a9, b1, b2, b4, b5, od, b3, sl, rfl, c8, fun a h => ?_, fun a h => ?_⟩
      · subst h
        exact isV_ok c4
      · subst h
        exact isV_ok c5
    | _ => cases c
/-- what K says, as a Bool, and back -/
def intB (K : PySem.W.Frag) (D : Addr) (x : Str) (i : Int) : Bool := match PySem.W.nsIn K D x with
  | some (some (.int j _)) => decide (j = i)
  | _ => false
theorem int_ns {K : PySem.W.Frag} {D : Addr} {x : Str} {i : Int} (h : intB K D x i = true) : ∃ t, PySem.W.nsIn K D x = some (some (.int i t)) := by
  unfold intB at h
  cases l : PySem.W.nsIn K D x with
  | none =>
    rw [l] at h
    cases h
  | some u =>
    rw [l] at h
    cases u with
    | none => cases h
    | some v =>
      cases v with
      | int j t =>
        have e : j = i := of_decide_eq_true h
        exact ⟨t, by rw [e]⟩
      | _ => cases h
def recB (K : PySem.W.Frag) (p : Addr) (s : String) (f : Addr) : Bool := match PySem.W.recIn K p s with
  | some (.ref a :: _) => Nat.beq a f
  | _ => false
theorem rec_ns {K : PySem.W.Frag} {p f : Addr} {s : String} (h : recB K p s f = true) : ∃ r, PySem.W.recIn K p s = some (.ref f :: r) := by
  unfold recB at h
  cases l : PySem.W.recIn K p s with
  | none =>
    rw [l] at h
    cases h
  | some u =>
    rw [l] at h
    cases u with
    | nil => cases h
    | cons v r =>
      cases v with
      | ref a => exact ⟨r, by rw [Nat.eq_of_beq_eq_true h]⟩
      | _ => cases h
def oneB (K : PySem.W.Frag) (t : Addr) : Bool := match K.lookup t with
  | some ⟨_, _, .seq us _, _⟩ => decide (us.size = 1)
  | _ => false
theorem one_ns {K : PySem.W.Frag} {t : Addr} (h : oneB K t = true) : ∃ (e u : Value) (j : Option Addr) (m : Nat) (sl : Array (Option Value)), K.lookup t = some ⟨e, j, .seq #[u] m, sl⟩ := by
  unfold oneB at h
  cases l : K.lookup t with
  | none =>
    rw [l] at h
    cases h
  | some ob =>
    obtain ⟨oc, od, dt, sl⟩ := ob
    rw [l] at h
    cases dt with
    | seq us m =>
      have e : us.size = 1 := of_decide_eq_true h
      obtain ⟨us⟩ := us
      match us, e with
      | [u], _ => exact ⟨_, u, _, m, _, rfl⟩
    | _ => cases h
def clsB (K : PySem.W.Frag) (C : Addr) (x : Str) (p : Addr) : Bool := match PySem.W.findCls K (.ref C) (.type "type") x with
  | some (.get g a .none tp) => decide (g = .builtin "classmethod.__get__") && (decide (a = .ref p) && decide (tp = .ref C))
  | _ => false
theorem cls_ns {K : PySem.W.Frag} {C p : Addr} {x : Str} (h : clsB K C x p = true) : PySem.W.findCls K (.ref C) (.type "type") x = some (PySem.W.CFound.get (.builtin "classmethod.__get__") (.ref p) .none (.ref C)) := by
  unfold clsB at h
  cases l : PySem.W.findCls K (.ref C) (.type "type") x with
  | none =>
    rw [l] at h
    cases h
  | some u =>
    rw [l] at h
    cases u with
    | val v => cases h
    | get g a ob tp =>
      cases ob with
      | none =>
        obtain ⟨h1, h⟩ := Bool.and_eq_true_iff.mp h
        obtain ⟨h2, h3⟩ := Bool.and_eq_true_iff.mp h
        rw [of_decide_eq_true h1, of_decide_eq_true h2, of_decide_eq_true h3]
      | _ => cases h
def tabB (g : Addr → Option Obj) (P : Addr) : Bool := match g P with
  | some ⟨.none, none, .fields ⟨[]⟩, ⟨[]⟩⟩ => true
  | _ => false
theorem tab_ns {g : Addr → Option Obj} {P : Addr} (h : tabB g P = true) : g P = some (PySem.W.tabObj #[]) := by
  unfold tabB at h
  split at h
  · rename_i e
    exact e
  · cases h
/-- the look: the Bool ex of the part at the addresses as, the tables ts empty, the defs fs -/
def look (as ts : List Addr) (ex : PySem.W.Frag → Bool) (fs : List (Addr × FnT)) (g : Addr → Option Obj) : Bool × List FnT := (ex (He.frG g as) && ts.all fun P => tabB g P && ((He.frG g as).lookup P).isNone, fs.map fun p => fnAt (He.frG g as) p.1)
structure Says (ts : List Addr) (ex : PySem.W.Frag → Bool) (fs : List (Addr × FnT)) (h : Heap) (K : PySem.W.Frag) : Prop where
  In : K.In h
  ex : ex K = true
  fns : fs.map (fun p => fnAt K p.1) = fs.map (·.2)
  tab : ∀ P ∈ ts, h.get? P = some (PySem.W.tabObj #[]) ∧ K.lookup P = none
theorem Says.fn {ts : List Addr} {ex : PySem.W.Frag → Bool} {fs : List (Addr × FnT)} {h : Heap} {K : PySem.W.Frag} (c : Says ts ex fs h K) (i : Nat) {f : Addr} {v : FnT} (e : fs[i]? = some (f, v)) : fnAt K f = v := by
  have z := congrArg (fun l : List FnT => l[i]?) c.fns
  simpa only [List.getElem?_map, e, Option.map_some, Option.some.injEq] using z
def hook (as ts : List Addr) (ex : PySem.W.Frag → Bool) (fs : List (Addr × FnT)) : PySem.W.Hook where
  α := Bool × List FnT
  obs := fun s => look as ts ex fs s.heap.get?
  val := fun _ => (true, fs.map (·.2))
  says := fun _ h => ∃ K : PySem.W.Frag, Says ts ex fs h K
  of := fun w s e => by
    have e1 := congrArg Prod.fst e
    have e2 := congrArg Prod.snd e
    obtain ⟨h1, h2⟩ := Bool.and_eq_true_iff.mp e1
    refine ⟨_, He.frG_in, h1, e2, fun P hP => ?_⟩
    obtain ⟨h3, h4⟩ := Bool.and_eq_true_iff.mp (List.all_eq_true.mp h2 P hP)
    exact ⟨tab_ns h3, Option.isNone_iff_eq_none.mp h4⟩
  keeps := fun _ _ _ ⟨K, c⟩ k => ⟨K, PySem.W.Frag.In.keeps c.In k, c.ex, c.fns, fun P hP => ⟨k _ _ (c.tab P hP).1, (c.tab P hP).2⟩⟩
theorem look_eq {as ts : List Addr} {ex : PySem.W.Frag → Bool} {fs : List (Addr × FnT)} (s : PySem.W.SharedT) : look as ts ex fs (HandSHeadRun.getT s) = (hook as ts ex fs).obs s.abs := by
  have e : HandSHeadRun.getT s = s.abs.heap.get? := funext (HandSHeadRun.getT_eq s)
  rw [e] <;> rfl
/-- two runs that looked at two things are one that looked at both -/
theorem run_join {r : PySem.W.OpenRow} {q : Program} {as ts : List Addr} {e1 e2 : PySem.W.Frag → Bool} {fs : List (Addr × FnT)} {M : Nat} {loose : List Str} {w : World}
    (h1 : HandSHeadRun.RunEq r q (hook as ts e1 fs) (fun s => look as ts e1 fs (HandSHeadRun.getT s)) M loose w) (h2 : HandSHeadRun.RunEq r q (hook as [] e2 []) (fun s => look as [] e2 [] (HandSHeadRun.getT s)) M loose w) :
    HandSHeadRun.RunEq r q (hook as ts (fun K => e1 K && e2 K) fs) (fun s => look as ts (fun K => e1 K && e2 K) fs (HandSHeadRun.getT s)) M loose w := by
  intro os
  obtain ⟨s, es, a⟩ := Option.map_eq_some_iff.mp (h1 os)
  obtain ⟨s2, es2, b⟩ := Option.map_eq_some_iff.mp (h2 os)
  obtain rfl : s = s2 := Option.some.inj (es.symm.trans es2)
  rw [es]
  have a1 := congrArg (fun z => z.2.2.1) a
  have a2 := congrArg (fun z => z.2.2.2) a
  have b1 := congrArg (fun z => z.2.2.1) b
  obtain ⟨a3, a4⟩ := Bool.and_eq_true_iff.mp (show (e1 (He.frG (HandSHeadRun.getT s) as) && ts.all fun P => tabB (HandSHeadRun.getT s) P && ((He.frG (HandSHeadRun.getT s) as).lookup P).isNone) = true from a1)
  obtain ⟨b3, _⟩ := Bool.and_eq_true_iff.mp (show (e2 (He.frG (HandSHeadRun.getT s) as) && List.all [] fun P => tabB (HandSHeadRun.getT s) P && ((He.frG (HandSHeadRun.getT s) as).lookup P).isNone) = true from b1)
  have l : look as ts (fun K => e1 K && e2 K) fs (HandSHeadRun.getT s) = (true, fs.map (·.2)) := by
    refine Prod.ext ?_ a2
    show ((e1 _ && e2 _) && List.all _ _) = true
    rw [a3, b3, a4] <;> rfl
  refine congrArg some ?_
  have c1 := congrArg (fun z => z.1) a
  have c2 := congrArg (fun z => z.2.1) a
  exact Prod.ext c1 (Prod.ext c2 l)
end HK
set_option Elab.async false
set_option linter.all false
set_option maxRecDepth 100000
set_option maxHeartbeats 0
namespace WK
open PySem L2 PyProof.Rows LCX K1 FV DP LamX RM
open TX (sg sigs)
open PySem.W (Frag kitOne)
def ex0 (K : Frag) : Bool := He.eqO (PySem.W.nsIn K mainGlobals "Box") (some (some (.ref 743))) && (He.eqO (PySem.W.nsIn K mainGlobals "Made") (some (some (.ref 218))) && (He.eqO (PySem.W.nsIn K mainGlobals "Machine") (some (some (.ref 550))) && (He.eqO (PySem.W.nsIn K mainGlobals "InvalidWord") (some (some (.ref 44))) && (He.eqO (PySem.W.nsIn K mainGlobals "InvalidMachine") (some (some (.ref 56))) && (He.eqO (PySem.W.nsIn K mainGlobals "InvalidBox") (some (some (.ref 68))) && (He.eqO (PySem.W.nsIn K mainGlobals "InvalidOperation") (some (some (.ref 80))) && (He.eqO (PySem.W.nsIn K mainGlobals "ParseError") (some (some (.ref 99))) && (He.eqO (PySem.W.nsIn K mainGlobals "UnknownName") (some (some (.ref 118))) && (He.eqO (PySem.W.nsIn K mainGlobals "InvalidNumber") (some (some (.ref 138))) && (He.eqO (PySem.W.nsIn K mainGlobals "TooMany") (some (some (.ref 158))) && ((PySem.W.plainGet K 743 Str.empty) && ((PySem.W.hasDictIn K 743) && ((PySem.W.plainOver K 743) && (He.eqO (PySem.W.findIn K (.ref 743) "__setattr__") (some (some (.builtin "object.__setattr__"))) && (He.eqO (PySem.W.findIn K (.ref 743) "__class__") (some (some (.builtin "object.__class__"))) && (decide (PySem.W.mroIn K 743 (.type "object") = some true) && ((PySem.W.makesIn K 743) && ((PySem.W.keepIn K (.ref 743)) && (He.eqO (PySem.W.findIn K (.ref 743) "__init__") (some (some (.ref 595))) && ((PySem.W.isFn K (.ref 595)) && (((tyNames.all fun t => kitOne K (.type t) (.ref 743) == some false)) && ((PySem.W.plainGet K 218 Str.empty) && ((PySem.W.hasDictIn K 218) && ((PySem.W.plainOver K 218) && (He.eqO (PySem.W.findIn K (.ref 218) "__setattr__") (some (some (.builtin "object.__setattr__"))) && (He.eqO (PySem.W.findIn K (.ref 218) "__class__") (some (some (.builtin "object.__class__"))) && (decide (PySem.W.mroIn K 218 (.type "object") = some true) && ((PySem.W.makesIn K 218) && ((PySem.W.keepIn K (.ref 218)) && true)))))))))))))))))))))))))))))
def ex1 (K : Frag) : Bool := He.eqO (PySem.W.findIn K (.ref 218) "__init__") (some (some (.ref 215))) && ((PySem.W.isFn K (.ref 215)) && (((tyNames.all fun t => kitOne K (.type t) (.ref 218) == some false)) && ((PySem.W.plainGet K 550 Str.empty) && ((PySem.W.hasDictIn K 550) && ((PySem.W.plainOver K 550) && (He.eqO (PySem.W.findIn K (.ref 550) "__setattr__") (some (some (.builtin "object.__setattr__"))) && (He.eqO (PySem.W.findIn K (.ref 550) "__class__") (some (some (.builtin "object.__class__"))) && (decide (PySem.W.mroIn K 550 (.type "object") = some true) && ((PySem.W.makesIn K 550) && ((PySem.W.keepIn K (.ref 550)) && (He.eqO (PySem.W.findIn K (.ref 550) "__init__") (some (some (.ref 424))) && ((PySem.W.isFn K (.ref 424)) && (((tyNames.all fun t => kitOne K (.type t) (.ref 550) == some false)) && (He.eqO (PySem.W.specialIn K (.builtin "object.__class__") "__get__") (some (some (.builtin "getset_descriptor.__get__"))) && (decide (PySem.W.takesIn K (.builtin "object.__class__") = some true) && (He.eqO (PySem.W.findIn K (.ref 743) "_table") (some none) && (He.eqO (PySem.W.findIn K (.ref 743) "_letters") (some none) && (He.eqO (PySem.W.findIn K (.ref 218) "rows") (some none) && (He.eqO (PySem.W.findIn K (.ref 550) "_table") (some none) && (He.eqO (PySem.W.findIn K (.ref 550) "_letters") (some none) && (He.eqO (PySem.W.findIn K (.ref 550) "_ends") (some none) && ((PySem.W.readsIn K 743 (.type "type")) && (He.eqO (PySem.W.specialIn K (.ref 743) "__getattribute__") (some (some (.builtin "type.__getattribute__"))) && (HK.clsB K 743 "window" 604 && (HK.recB K 604 "classmethod" 602 && ((PySem.W.fnIn K 602) && (HK.clsB K 743 "heads" 614 && (HK.recB K 614 "classmethod" 612 && ((PySem.W.fnIn K 612) && true)))))))))))))))))))))))))))))
def ex2 (K : Frag) : Bool := HK.clsB K 743 "pieces" 624 && (HK.recB K 624 "classmethod" 622 && ((PySem.W.fnIn K 622) && (HK.clsB K 743 "caps" 634 && (HK.recB K 634 "classmethod" 632 && ((PySem.W.fnIn K 632) && (HK.clsB K 743 "rests" 644 && (HK.recB K 644 "classmethod" 642 && ((PySem.W.fnIn K 642) && (HK.clsB K 743 "clerk" 654 && (HK.recB K 654 "classmethod" 652 && ((PySem.W.fnIn K 652) && (He.eqO (PySem.W.findIn K (.ref 743) "letters") (some (some (.ref 663))) && (He.eqO (PySem.W.specialIn K (.ref 663) "__get__") (some (some (.builtin "property.__get__"))) && (decide (PySem.W.takesIn K (.ref 663) = some true) && (HK.recB K 663 "property" 662 && (He.eqO (PySem.W.findIn K (.ref 550) "letters") (some (some (.ref 432))) && (He.eqO (PySem.W.specialIn K (.ref 432) "__get__") (some (some (.builtin "property.__get__"))) && (decide (PySem.W.takesIn K (.ref 432) = some true) && (HK.recB K 432 "property" 431 && (He.eqO (PySem.W.findIn K (.ref 743) "__call__") (some (some (.ref 678))) && ((PySem.W.isFn K (.ref 678)) && (He.eqO (PySem.W.findIn K (.ref 743) "place") (some (some (.ref 686))) && ((PySem.W.isFn K (.ref 686)) && (He.eqO (PySem.W.findIn K (.ref 743) "action") (some (some (.ref 691))) && ((PySem.W.isFn K (.ref 691)) && (He.eqO (PySem.W.findIn K (.ref 743) "first_word") (some (some (.ref 698))) && ((PySem.W.isFn K (.ref 698)) && (He.eqO (PySem.W.findIn K (.ref 743) "machine") (some (some (.ref 712))) && ((PySem.W.isFn K (.ref 712)) && true)))))))))))))))))))))))))))))
def ex3 (K : Frag) : Bool := He.eqO (PySem.W.findIn K (.ref 743) "__and__") (some (some (.ref 719))) && ((PySem.W.isFn K (.ref 719)) && (He.eqO (PySem.W.findIn K (.ref 743) "__len__") (some (some (.ref 726))) && ((PySem.W.isFn K (.ref 726)) && ((PySem.W.fnIn K 678) && ((PySem.W.selfFirst K 743) && (He.eqO (PySem.W.findIn K (.ref 743) (dunderR "and")) (some none) && (((tyNames.all fun t => PySem.W.subIn K (.type t) (.ref 743) == some false)) && (decide (kitOne K (.ref 743) (.ref 743) = some true) && (decide (kitOne K (.ref 550) (.ref 550) = some true) && (((plainTys.all fun t => kitOne K (.type t) (.ref 218) == some false)) && (decide (kitOne K (.type "tuple") (.ref 218) = some false) && ((PySem.W.excIn K 44 [.type "ValueError", .type "Exception", .type "BaseException", .type "object"] "ValueError.__new__") && ((PySem.W.keepIn K (.ref 44)) && (decide (PySem.W.subIn K (.ref 44) (.type "BaseException") = some true) && (decide (PySem.W.typeIn K (.ref 44) = some (.type "type")) && ((PySem.W.excIn K 56 [.type "ValueError", .type "Exception", .type "BaseException", .type "object"] "ValueError.__new__") && ((PySem.W.keepIn K (.ref 56)) && (decide (PySem.W.subIn K (.ref 56) (.type "BaseException") = some true) && (decide (PySem.W.typeIn K (.ref 56) = some (.type "type")) && ((PySem.W.excIn K 68 [.type "ValueError", .type "Exception", .type "BaseException", .type "object"] "ValueError.__new__") && ((PySem.W.keepIn K (.ref 68)) && (decide (PySem.W.subIn K (.ref 68) (.type "BaseException") = some true) && (decide (PySem.W.typeIn K (.ref 68) = some (.type "type")) && ((PySem.W.excIn K 80 [.type "ValueError", .type "Exception", .type "BaseException", .type "object"] "ValueError.__new__") && ((PySem.W.keepIn K (.ref 80)) && (decide (PySem.W.subIn K (.ref 80) (.type "BaseException") = some true) && (decide (PySem.W.typeIn K (.ref 80) = some (.type "type")) && ((WE.errB K 138) && (He.eqO (PySem.W.findIn K (.ref 138) "__init__") (some (some (.ref 135))) && true)))))))))))))))))))))))))))))
def ex4 (K : Frag) : Bool := (WE.errI K 138 135 [.type "RuntimeError", .type "Exception", .type "BaseException", .type "object"] "RuntimeError.__new__" "value") && (decide (PySem.W.typeIn K (.ref 138) = some (.type "type")) && (He.eqO (PySem.W.findIn K (.ref 138) "value") (some none) && ((WE.errB K 158) && (He.eqO (PySem.W.findIn K (.ref 158) "__init__") (some (some (.ref 155))) && ((WE.errI K 158 155 [.type "OverflowError", .type "ArithmeticError", .type "Exception", .type "BaseException", .type "object"] "OverflowError.__new__" "limit") && (decide (PySem.W.typeIn K (.ref 158) = some (.type "type")) && (He.eqO (PySem.W.findIn K (.ref 158) "limit") (some none) && (decide (PySem.W.exmOne K (.ref 44) (.ref 44) = some true) && (decide (PySem.W.exmOne K (.ref 56) (.ref 44) = some false) && (decide (PySem.W.exmOne K (.ref 56) (.ref 56) = some true) && (decide (PySem.W.exmOne K (.ref 68) (.ref 44) = some false) && (decide (PySem.W.exmOne K (.ref 68) (.ref 56) = some false) && (decide (PySem.W.exmOne K (.ref 68) (.ref 68) = some true) && (decide (PySem.W.exmOne K (.ref 80) (.ref 44) = some false) && (decide (PySem.W.exmOne K (.ref 80) (.ref 56) = some false) && (decide (PySem.W.exmOne K (.ref 80) (.ref 68) = some false) && (decide (PySem.W.exmOne K (.ref 80) (.ref 80) = some true) && (decide (PySem.W.exmOne K (.ref 138) (.ref 44) = some false) && (decide (PySem.W.exmOne K (.ref 138) (.ref 56) = some false) && (decide (PySem.W.exmOne K (.ref 138) (.ref 68) = some false) && (decide (PySem.W.exmOne K (.ref 138) (.ref 80) = some false) && (decide (PySem.W.exmOne K (.ref 138) (.ref 99) = some false) && (decide (PySem.W.exmOne K (.ref 138) (.ref 118) = some false) && (decide (PySem.W.exmOne K (.ref 138) (.ref 138) = some true) && (decide (PySem.W.exmOne K (.ref 158) (.ref 44) = some false) && (decide (PySem.W.exmOne K (.ref 158) (.ref 56) = some false) && (decide (PySem.W.exmOne K (.ref 158) (.ref 68) = some false) && (decide (PySem.W.exmOne K (.ref 158) (.ref 80) = some false) && (decide (PySem.W.exmOne K (.ref 158) (.ref 99) = some false) && true)))))))))))))))))))))))))))))
def ex5 (K : Frag) : Bool := decide (PySem.W.exmOne K (.ref 158) (.ref 118) = some false) && (decide (PySem.W.exmOne K (.ref 158) (.ref 138) = some false) && (decide (PySem.W.exmOne K (.ref 158) (.ref 158) = some true) && (He.eqO (PySem.W.nsIn K mainGlobals "explored") (some (some (.ref 269))) && (HK.fnB K 269 "explored" (some 262) none none && ((PySem.W.keepIn K (.ref 269)) && (He.eqO (PySem.W.nsIn K mainGlobals "is_integer") (some (some (.ref 291))) && (HK.fnB K 291 "is_integer" none none none && ((PySem.W.keepIn K (.ref 291)) && (He.eqO (PySem.W.nsIn K mainGlobals "is_number") (some (some (.ref 298))) && (HK.fnB K 298 "is_number" none none none && ((PySem.W.keepIn K (.ref 298)) && (He.eqO (PySem.W.nsIn K mainGlobals "need_number") (some (some (.ref 305))) && (HK.fnB K 305 "need_number" none none none && ((PySem.W.keepIn K (.ref 305)) && (He.eqO (PySem.W.nsIn K mainGlobals "ascends") (some (some (.ref 317))) && (HK.fnB K 317 "ascends" none none none && ((PySem.W.keepIn K (.ref 317)) && (He.eqO (PySem.W.nsIn K mainGlobals "is_ascending") (some (some (.ref 322))) && (HK.fnB K 322 "is_ascending" none none none && ((PySem.W.keepIn K (.ref 322)) && (He.eqO (PySem.W.nsIn K mainGlobals "is_table") (some (some (.ref 337))) && (HK.fnB K 337 "is_table" none none none && ((PySem.W.keepIn K (.ref 337)) && (He.eqO (PySem.W.nsIn K mainGlobals "_is_row") (some (some (.ref 349))) && (HK.fnB K 349 "_is_row" none none none && ((PySem.W.keepIn K (.ref 349)) && (He.eqO (PySem.W.nsIn K mainGlobals "is_letters") (some (some (.ref 356))) && (HK.fnB K 356 "is_letters" none none none && ((PySem.W.keepIn K (.ref 356)) && true)))))))))))))))))))))))))))))
def ex6 (K : Frag) : Bool := He.eqO (PySem.W.nsIn K mainGlobals "is_word") (some (some (.ref 363))) && (HK.fnB K 363 "is_word" none none none && ((PySem.W.keepIn K (.ref 363)) && (He.eqO (PySem.W.nsIn K mainGlobals "is_over") (some (some (.ref 368))) && (HK.fnB K 368 "is_over" none none none && ((PySem.W.keepIn K (.ref 368)) && (He.eqO (PySem.W.nsIn K mainGlobals "need_letters") (some (some (.ref 375))) && (HK.fnB K 375 "need_letters" none none none && ((PySem.W.keepIn K (.ref 375)) && (He.eqO (PySem.W.nsIn K mainGlobals "need_word") (some (some (.ref 382))) && (HK.fnB K 382 "need_word" none none none && ((PySem.W.keepIn K (.ref 382)) && (He.eqO (PySem.W.nsIn K mainGlobals "need_over") (some (some (.ref 389))) && (HK.fnB K 389 "need_over" none none none && ((PySem.W.keepIn K (.ref 389)) && (He.eqO (PySem.W.nsIn K mainGlobals "need_machines") (some (some (.ref 569))) && (HK.fnB K 569 "need_machines" none none none && ((PySem.W.keepIn K (.ref 569)) && (He.eqO (PySem.W.nsIn K mainGlobals "need_same_letters") (some (some (.ref 576))) && (HK.fnB K 576 "need_same_letters" none none none && ((PySem.W.keepIn K (.ref 576)) && (He.eqO (PySem.W.nsIn K mainGlobals "need_box") (some (some (.ref 754))) && (HK.fnB K 754 "need_box" none none none && ((PySem.W.keepIn K (.ref 754)) && (He.eqO (PySem.W.nsIn K mainGlobals "_grown") (some (some (.ref 761))) && (HK.fnB K 761 "_grown" none none none && ((PySem.W.keepIn K (.ref 761)) && (He.eqO (PySem.W.nsIn K mainGlobals "_counting") (some (some (.ref 771))) && (HK.fnB K 771 "_counting" none none (some 770) && ((PySem.W.keepIn K (.ref 771)) && true)))))))))))))))))))))))))))))
def ex7 (K : Frag) : Bool := He.eqO (PySem.W.nsIn K mainGlobals "_one_more") (some (some (.ref 778))) && (HK.fnB K 778 "_one_more" none none none && ((PySem.W.keepIn K (.ref 778)) && (He.eqO (PySem.W.nsIn K mainGlobals "places") (some (some (.ref 785))) && (HK.fnB K 785 "places" none none none && ((PySem.W.keepIn K (.ref 785)) && (He.eqO (PySem.W.nsIn K mainGlobals "word_to") (some (some (.ref 792))) && (HK.fnB K 792 "word_to" none none none && ((PySem.W.keepIn K (.ref 792)) && (He.eqO (PySem.W.nsIn K mainGlobals "tells_apart") (some (some (.ref 799))) && (HK.fnB K 799 "tells_apart" none none none && ((PySem.W.keepIn K (.ref 799)) && (He.eqO (PySem.W.nsIn K mainGlobals "alike_pair") (some (some (.ref 806))) && (HK.fnB K 806 "alike_pair" none none none && ((PySem.W.keepIn K (.ref 806)) && (He.eqO (PySem.W.nsIn K mainGlobals "is_alike_pair") (some (some (.ref 813))) && (HK.fnB K 813 "is_alike_pair" none none none && ((PySem.W.keepIn K (.ref 813)) && (He.eqO (PySem.W.nsIn K mainGlobals "is_seen") (some (some (.ref 820))) && (HK.fnB K 820 "is_seen" none none none && ((PySem.W.keepIn K (.ref 820)) && (He.eqO (PySem.W.nsIn K mainGlobals "apart_paper") (some (some (.ref 827))) && (HK.fnB K 827 "apart_paper" none none none && ((PySem.W.keepIn K (.ref 827)) && (He.eqO (PySem.W.nsIn K mainGlobals "is_apart_paper") (some (some (.ref 832))) && (HK.fnB K 832 "is_apart_paper" none none none && ((PySem.W.keepIn K (.ref 832)) && (He.eqO (PySem.W.nsIn K mainGlobals "guesses_of") (some (some (.ref 837))) && (HK.fnB K 837 "guesses_of" none none none && ((PySem.W.keepIn K (.ref 837)) && true)))))))))))))))))))))))))))))
def ex8 (K : Frag) : Bool := He.eqO (PySem.W.nsIn K mainGlobals "box_groups") (some (some (.ref 842))) && (HK.fnB K 842 "box_groups" none none none && ((PySem.W.keepIn K (.ref 842)) && (He.eqO (PySem.W.nsIn K mainGlobals "_need") (some (some (.ref 849))) && (HK.fnB K 849 "_need" none none none && ((PySem.W.keepIn K (.ref 849)) && (He.eqO (PySem.W.nsIn K mainGlobals "_need_letters") (some (some (.ref 856))) && (HK.fnB K 856 "_need_letters" none none none && ((PySem.W.keepIn K (.ref 856)) && (He.eqO (PySem.W.nsIn K mainGlobals "_need_some") (some (some (.ref 863))) && (HK.fnB K 863 "_need_some" none none none && ((PySem.W.keepIn K (.ref 863)) && (He.eqO (PySem.W.nsIn K mainGlobals "_law_dice") (some (some (.ref 889))) && (HK.fnB K 889 "_law_dice" none none none && ((PySem.W.keepIn K (.ref 889)) && (He.eqO (PySem.W.nsIn K mainGlobals "_law_roll") (some (some (.ref 896))) && (HK.fnB K 896 "_law_roll" none none none && ((PySem.W.keepIn K (.ref 896)) && (He.eqO (PySem.W.nsIn K mainGlobals "_law_one_of") (some (some (.ref 903))) && (HK.fnB K 903 "_law_one_of" none none none && ((PySem.W.keepIn K (.ref 903)) && (He.eqO (PySem.W.nsIn K mainGlobals "_law_action") (some (some (.ref 908))) && (HK.fnB K 908 "_law_action" none none none && ((PySem.W.keepIn K (.ref 908)) && (He.eqO (PySem.W.nsIn K mainGlobals "_law_table") (some (some (.ref 913))) && (HK.fnB K 913 "_law_table" none none none && ((PySem.W.keepIn K (.ref 913)) && (He.eqO (PySem.W.nsIn K mainGlobals "_law_machine") (some (some (.ref 918))) && (HK.fnB K 918 "_law_machine" none none none && ((PySem.W.keepIn K (.ref 918)) && true)))))))))))))))))))))))))))))
def ex9 (K : Frag) : Bool := He.eqO (PySem.W.nsIn K mainGlobals "_law_made_machine") (some (some (.ref 925))) && (HK.fnB K 925 "_law_made_machine" none none none && ((PySem.W.keepIn K (.ref 925)) && (He.eqO (PySem.W.nsIn K mainGlobals "_law_box") (some (some (.ref 930))) && (HK.fnB K 930 "_law_box" none none none && ((PySem.W.keepIn K (.ref 930)) && (He.eqO (PySem.W.nsIn K mainGlobals "_law_made_box") (some (some (.ref 937))) && (HK.fnB K 937 "_law_made_box" none none none && ((PySem.W.keepIn K (.ref 937)) && (He.eqO (PySem.W.nsIn K mainGlobals "_law_met") (some (some (.ref 944))) && (HK.fnB K 944 "_law_met" none none none && ((PySem.W.keepIn K (.ref 944)) && (He.eqO (PySem.W.nsIn K mainGlobals "_law_made_calls") (some (some (.ref 951))) && (HK.fnB K 951 "_law_made_calls" none none (some 950) && ((PySem.W.keepIn K (.ref 951)) && (He.eqO (PySem.W.nsIn K mainGlobals "_law_box_calls") (some (some (.ref 958))) && (HK.fnB K 958 "_law_box_calls" none none (some 957) && ((PySem.W.keepIn K (.ref 958)) && (He.eqO (PySem.W.nsIn K mainGlobals "_law_sight_calls") (some (some (.ref 965))) && (HK.fnB K 965 "_law_sight_calls" none none (some 964) && ((PySem.W.keepIn K (.ref 965)) && (He.eqO (PySem.W.nsIn K mainGlobals "_law_right") (some (some (.ref 970))) && (HK.fnB K 970 "_law_right" none none (some 969) && ((PySem.W.keepIn K (.ref 970)) && (He.eqO (PySem.W.nsIn K mainGlobals "law") (some (some (.ref 977))) && (HK.fnB K 977 "law" none none (some 976) && ((PySem.W.keepIn K (.ref 977)) && (HK.fnB K 215 "Made.__init__" none none none && ((PySem.W.keepIn K (.ref 215)) && (HK.fnB K 595 "Box.__init__" none none none && true)))))))))))))))))))))))))))))
def ex10 (K : Frag) : Bool := (PySem.W.keepIn K (.ref 595)) && (HK.fnB K 424 "Machine.__init__" (some 417) none none && ((PySem.W.keepIn K (.ref 424)) && (HK.fnB K 155 "TooMany.__init__" none none none && ((PySem.W.keepIn K (.ref 155)) && (HK.fnB K 135 "InvalidNumber.__init__" none none none && ((PySem.W.keepIn K (.ref 135)) && (HK.fnB K 602 "Box.window" none none none && ((PySem.W.keepIn K (.ref 602)) && (HK.fnB K 612 "Box.heads" none none none && ((PySem.W.keepIn K (.ref 612)) && (HK.fnB K 622 "Box.pieces" none none none && ((PySem.W.keepIn K (.ref 622)) && (HK.fnB K 632 "Box.caps" none none none && ((PySem.W.keepIn K (.ref 632)) && (HK.fnB K 642 "Box.rests" none none none && ((PySem.W.keepIn K (.ref 642)) && (HK.fnB K 652 "Box.clerk" none none none && ((PySem.W.keepIn K (.ref 652)) && (HK.fnB K 662 "Box.letters" none none none && ((PySem.W.keepIn K (.ref 662)) && (HK.fnB K 431 "Machine.letters" none none none && ((PySem.W.keepIn K (.ref 431)) && (HK.fnB K 678 "Box.__call__" none none none && ((PySem.W.keepIn K (.ref 678)) && (HK.fnB K 686 "Box.place" none (some 679) none && ((PySem.W.keepIn K (.ref 686)) && (HK.fnB K 691 "Box.action" none none none && ((PySem.W.keepIn K (.ref 691)) && (HK.fnB K 698 "Box.first_word" none none none && true)))))))))))))))))))))))))))))
def ex11 (K : Frag) : Bool := (PySem.W.keepIn K (.ref 698)) && (HK.fnB K 712 "Box.machine" none none none && ((PySem.W.keepIn K (.ref 712)) && (HK.fnB K 719 "Box.__and__" none none none && ((PySem.W.keepIn K (.ref 719)) && (HK.fnB K 726 "Box.__len__" none none none && ((PySem.W.keepIn K (.ref 726)) && (HK.intB K 679 "times" 1 && (HK.oneB K 262 && (HK.oneB K 417 && ((PySem.W.codeHdIn K 976 972) && ((PySem.W.codeHdIn K 969 967) && ((PySem.W.codeHdIn K 964 960) && ((PySem.W.codeHdIn K 957 953) && ((PySem.W.codeHdIn K 950 946) && ((PySem.W.codeHdIn K 770 768) && (HK.intB K mainGlobals "MAX_MADE" 400 && (HK.intB K mainGlobals "_MAX_SIZE" 4 && (HK.intB K mainGlobals "_MAX_PIECES" 3 && (HK.intB K mainGlobals "_MAX_CAP" 9 && (HK.intB K mainGlobals "_MAX_MODULUS" 12 && (HK.intB K mainGlobals "MAX_LETTERS" 3 && (HK.intB K mainGlobals "MAX_PLACES" 6 && (HK.intB K mainGlobals "MAX_STATES" 4 && (HK.intB K mainGlobals "MAX_TIMES" 100000000000 && (HK.intB K mainGlobals "_MOST_MACHINES" 8 && (He.eqO (PySem.W.nsIn K mainGlobals "len") (some none) && (He.eqO (PySem.W.nsIn K mainGlobals "int") (some none) && (He.eqO (PySem.W.nsIn K mainGlobals "abs") (some none) && (He.eqO (PySem.W.nsIn K mainGlobals "isinstance") (some none) && true)))))))))))))))))))))))))))))
def ex12 (K : Frag) : Bool := He.eqO (PySem.W.nsIn K mainGlobals "bool") (some none) && (He.eqO (PySem.W.nsIn K mainGlobals "str") (some none) && (He.eqO (PySem.W.nsIn K mainGlobals "all") (some none) && (He.eqO (PySem.W.nsIn K mainGlobals "range") (some none) && (He.eqO (PySem.W.nsIn K mainGlobals "sorted") (some none) && (He.eqO (PySem.W.nsIn K mainGlobals "set") (some none) && (He.eqO (PySem.W.nsIn K mainGlobals "tuple") (some none) && (He.eqO (PySem.W.nsIn K mainGlobals "list") (some none) && (He.eqO (PySem.W.nsIn K mainGlobals "max") (some none) && (He.eqO (PySem.W.nsIn K mainGlobals "min") (some none) && (He.eqO (PySem.W.nsIn K mainGlobals "zip") (some none) && (He.eqO (PySem.W.nsIn K mainGlobals "repr") (some none) && true)))))))))))
def exG0 (K : Frag) : Bool := ex0 K && (ex1 K && (ex2 K && (ex3 K && (ex4 K && (ex5 K && (ex6 K && (ex7 K && true)))))))
def exG1 (K : Frag) : Bool := ex8 K && (ex9 K && (ex10 K && (ex11 K && (ex12 K && true))))
abbrev exAllK : Frag → Bool := fun K => (fun K => (fun _ => true) K && exG0 K) K && exG1 K
abbrev fs0 : List (Addr × HK.FnT) := [(269, HK.fnIs "explored" "explored" sExpl), (291, HK.fnIs "is_integer" "is_integer" sIsInt), (298, HK.fnIs "is_number" "is_number" sIsNum), (305, HK.fnIs "need_number" "need_number" sNeedNum), (317, HK.fnIs "ascends" "ascends" sAsc), (322, HK.fnIs "is_ascending" "is_ascending" sIsAsc), (337, HK.fnIs "is_table" "is_table" sIsTab), (349, HK.fnIs "_is_row" "_is_row" sIsRow), (356, HK.fnIs "is_letters" "is_letters" sIsLet), (363, HK.fnIs "is_word" "is_word" sIsWord), (368, HK.fnIs "is_over" "is_over" sIsOver), (375, HK.fnIs "need_letters" "need_letters" sNeedLet), (382, HK.fnIs "need_word" "need_word" sNeedWord), (389, HK.fnIs "need_over" "need_over" sNeedOver), (569, HK.fnIs "need_machines" "need_machines" sNeedMs), (576, HK.fnIs "need_same_letters" "need_same_letters" sSame), (754, HK.fnIs "need_box" "need_box" sNeedBox), (761, HK.fnIs "_grown" "_grown" sGrown), (771, HK.fnIs "_counting" "_counting" sCount), (778, HK.fnIs "_one_more" "_one_more" sOneM), (785, HK.fnIs "places" "places" sPlaces), (792, HK.fnIs "word_to" "word_to" sWordTo), (799, HK.fnIs "tells_apart" "tells_apart" sTells), (806, HK.fnIs "alike_pair" "alike_pair" sAlikeP), (813, HK.fnIs "is_alike_pair" "is_alike_pair" sIsAlikeP)]
abbrev fs1 : List (Addr × HK.FnT) := [(820, HK.fnIs "is_seen" "is_seen" sIsSeen), (827, HK.fnIs "apart_paper" "apart_paper" sApartP), (832, HK.fnIs "is_apart_paper" "is_apart_paper" sIsApartP), (837, HK.fnIs "guesses_of" "guesses_of" sGuesses), (842, HK.fnIs "box_groups" "box_groups" sBGroups), (849, HK.fnIs "_need" "_need" sNeedAll), (856, HK.fnIs "_need_letters" "_need_letters" sNeedLs), (863, HK.fnIs "_need_some" "_need_some" sNeedSome), (889, HK.fnIs "_law_dice" "_law_dice" sDice), (896, HK.fnIs "_law_roll" "_law_roll" sRoll), (903, HK.fnIs "_law_one_of" "_law_one_of" sOne), (908, HK.fnIs "_law_action" "_law_action" sAct), (913, HK.fnIs "_law_table" "_law_table" sLTab), (918, HK.fnIs "_law_machine" "_law_machine" sLMac), (925, HK.fnIs "_law_made_machine" "_law_made_machine" sMade), (930, HK.fnIs "_law_box" "_law_box" sLBox), (937, HK.fnIs "_law_made_box" "_law_made_box" sMBox), (944, HK.fnIs "_law_met" "_law_met" sMet), (951, HK.fnIs "_law_made_calls" "_law_made_calls" sMC), (958, HK.fnIs "_law_box_calls" "_law_box_calls" sBC2), (965, HK.fnIs "_law_sight_calls" "_law_sight_calls" sSC), (970, HK.fnIs "_law_right" "_law_right" sRt), (977, HK.fnIs "law" "law" sLw), (215, HK.fnIs "__init__" "Made.__init__" sMadeI), (595, HK.fnIs "__init__" "Box.__init__" sBoxI)]
abbrev fs2 : List (Addr × HK.FnT) := [(424, HK.fnIs "__init__" "Machine.__init__" sMInit), (155, HK.fnIs "__init__" "TooMany.__init__" sTMI), (135, HK.fnIs "__init__" "InvalidNumber.__init__" sINI), (602, HK.fnIs "window" "Box.window" sWindowM), (612, HK.fnIs "heads" "Box.heads" sHeadsM), (622, HK.fnIs "pieces" "Box.pieces" sPiecesM), (632, HK.fnIs "caps" "Box.caps" sCapsM), (642, HK.fnIs "rests" "Box.rests" sRestsM), (652, HK.fnIs "clerk" "Box.clerk" sClerkM), (662, HK.fnIs "letters" "Box.letters" sBGet), (431, HK.fnIs "letters" "Machine.letters" sMLet), (678, HK.fnIs "__call__" "Box.__call__" sBCall), (686, HK.fnIs "place" "Box.place" sBPlace), (691, HK.fnIs "action" "Box.action" sBAct), (698, HK.fnIs "first_word" "Box.first_word" sBFirst), (712, HK.fnIs "machine" "Box.machine" sBxMach), (719, HK.fnIs "__and__" "Box.__and__" sBxAnd), (726, HK.fnIs "__len__" "Box.__len__" sBLen)]
abbrev fsAll : List (Addr × HK.FnT) := fs0 ++ (fs1 ++ (fs2))
def as0 : List Addr := [2, 3, 15, 17, 18, 20, 21, 22, 29, 30, 31, 32, 35, 42, 43, 44, 47, 54, 55, 56, 59, 66, 67, 68, 71, 78, 79, 80, 83, 90, 92, 93, 95, 96, 97, 98, 99, 102, 109, 111, 112, 114, 115, 116, 117, 118, 119, 122, 129, 131, 132, 134, 135, 136, 137, 138, 139, 142, 149, 151]
def as1 : List Addr := [152, 154, 155, 156, 157, 158, 159, 162, 169, 171, 172, 174, 175, 176, 177, 178, 179, 182, 189, 191, 192, 194, 195, 196, 197, 198, 199, 209, 211, 212, 214, 215, 216, 217, 218, 219, 220, 223, 226, 227, 228, 230, 231, 233, 234, 235, 237, 238, 240, 241, 242, 244, 245, 247, 248, 249, 252, 253, 254, 255]
def as2 : List Addr := [257, 258, 260, 261, 262, 263, 265, 266, 268, 269, 270, 273, 274, 275, 278, 279, 280, 283, 284, 285, 287, 288, 290, 291, 292, 294, 295, 297, 298, 299, 301, 302, 304, 305, 306, 308, 309, 311, 312, 313, 316, 317, 318, 321, 322, 323, 326, 327, 328, 331, 332, 333, 336, 337, 338, 340, 341, 343, 344, 345]
def as3 : List Addr := [348, 349, 350, 352, 353, 355, 356, 357, 359, 360, 362, 363, 364, 367, 368, 369, 371, 372, 374, 375, 376, 378, 379, 381, 382, 383, 385, 386, 388, 389, 390, 393, 394, 395, 397, 398, 400, 401, 402, 404, 405, 407, 408, 416, 417, 418, 420, 421, 423, 424, 425, 427, 428, 430, 431, 432, 433, 435, 436, 438]
def as4 : List Addr := [439, 440, 441, 443, 444, 446, 447, 448, 449, 451, 452, 454, 455, 456, 457, 459, 460, 462, 463, 464, 465, 466, 468, 469, 471, 472, 473, 475, 476, 478, 479, 480, 482, 483, 485, 486, 487, 489, 490, 492, 493, 494, 497, 498, 499, 501, 502, 504, 505, 506, 508, 509, 511, 512, 513, 515, 516, 518, 519, 520]
def as5 : List Addr := [522, 523, 525, 526, 527, 529, 530, 532, 533, 534, 536, 537, 539, 540, 541, 543, 544, 546, 547, 548, 549, 550, 551, 552, 555, 556, 558, 559, 561, 562, 563, 565, 566, 568, 569, 570, 572, 573, 575, 576, 577, 580, 581, 589, 591, 592, 594, 595, 596, 598, 599, 601, 602, 603, 604, 605, 606, 608, 609, 611]
def as6 : List Addr := [612, 613, 614, 615, 616, 618, 619, 621, 622, 623, 624, 625, 626, 628, 629, 631, 632, 633, 634, 635, 636, 638, 639, 641, 642, 643, 644, 645, 646, 648, 649, 651, 652, 653, 654, 655, 656, 658, 659, 661, 662, 663, 664, 666, 667, 669, 670, 671, 672, 674, 675, 677, 678, 679, 680, 682, 683, 685, 686, 687]
def as7 : List Addr := [690, 691, 692, 694, 695, 697, 698, 699, 701, 702, 704, 705, 706, 708, 709, 711, 712, 713, 715, 716, 718, 719, 720, 722, 723, 725, 726, 727, 729, 730, 732, 733, 734, 736, 737, 739, 740, 741, 742, 743, 744, 745, 748, 750, 751, 753, 754, 755, 757, 758, 760, 761, 762, 765, 766, 767, 770, 771, 772, 774]
def as8 : List Addr := [775, 777, 778, 779, 781, 782, 784, 785, 786, 788, 789, 791, 792, 793, 795, 796, 798, 799, 800, 802, 803, 805, 806, 807, 809, 810, 812, 813, 814, 816, 817, 819, 820, 821, 823, 824, 826, 827, 828, 831, 832, 833, 836, 837, 838, 841, 842, 843, 845, 846, 848, 849, 850, 852, 853, 855, 856, 857, 859, 860]
def as9 : List Addr := [862, 863, 864, 866, 867, 869, 870, 871, 873, 874, 876, 877, 878, 881, 882, 883, 885, 886, 888, 889, 890, 892, 893, 895, 896, 897, 899, 900, 902, 903, 904, 907, 908, 909, 912, 913, 914, 917, 918, 919, 921, 922, 924, 925, 926, 929, 930, 931, 933, 934, 936, 937, 938, 940, 941, 943, 944, 945, 947, 948]
def as10 : List Addr := [950, 951, 952, 954, 955, 957, 958, 959, 961, 962, 964, 965, 966, 969, 970, 971, 973, 974, 976, 977]
def asAll : List Addr := as0 ++ (as1 ++ (as2 ++ (as3 ++ (as4 ++ (as5 ++ (as6 ++ (as7 ++ (as8 ++ (as9 ++ (as10))))))))))
abbrev tsAll : List Addr := [972, 967, 960, 953, 946, 768]
def nm0 : List Str := ["_wall", "WatchError", "InvalidWord", "InvalidMachine", "InvalidBox", "InvalidOperation", "ParseError", "UnknownName", "InvalidNumber", "TooMany", "NothingToUndo", "Refused", "Made", "led", "led_often", "ways", "word_along", "trimmed", "paired", "explored", "numbered", "refined", "least_parts", "is_integer", "is_number", "need_number", "is_pair", "ascends", "is_ascending", "are_pairs"]
def nm1 : List Str := ["grouped", "is_table", "_is_pair_of", "_is_row", "MAX_LETTERS", "is_letters", "is_word", "is_over", "need_letters", "need_word", "need_over", "all_words", "last_letters", "first_letters", "MAX_STATES", "MAX_TIMES", "Machine", "least_machine", "need_machines", "need_same_letters", "_combined", "MAX_PLACES", "MAX_MADE", "_MAX_SIZE", "_MAX_PIECES", "_MAX_CAP", "_MAX_MODULUS", "Box", "need_box", "_grown"]
def nm2 : List Str := ["_with_pieces", "_counting", "_one_more", "_MOST_MACHINES", "places", "word_to", "tells_apart", "alike_pair", "is_alike_pair", "is_seen", "apart_paper", "is_apart_paper", "guesses_of", "box_groups", "_need", "_need_letters", "_need_some", "_first_words", "_reached", "_is_closed", "_law_dice", "_law_roll", "_law_one_of", "_law_action", "_law_table", "_law_machine", "_law_made_machine", "_law_box", "_law_made_box", "_law_met"]
def nm3 : List Str := ["_law_made_calls", "_law_box_calls", "_law_sight_calls", "_law_right"]
def nmAll : List Str := nm0 ++ (nm1 ++ (nm2 ++ (nm3)))
abbrev Rw : PySem.W.OpenRow := PySem.W.OpenLaw.row PySem.Challenge.rw_watchkinds_k10_errors_of_boxes
abbrev hkAll : PySem.W.Hook := HK.hook asAll tsAll exAllK fsAll
def obAll (s : PySem.W.SharedT) : Bool × List HK.FnT := HK.look asAll tsAll exAllK fsAll (HandSHeadRun.getT s)
theorem obAll_eq (s : PySem.W.SharedT) : obAll s = hkAll.obs s.abs := HK.look_eq s
theorem runF (w : World) : HandSHeadRun.RunEq Rw (PySem.W.view Rw.prog [102]) (HK.hook asAll tsAll (fun _ => true) fsAll) (fun s => HK.look asAll tsAll (fun _ => true) fsAll (HandSHeadRun.getT s)) 9000 nmAll w := by
  intro os
  kernel_rfl
theorem runG0 (w : World) : HandSHeadRun.RunEq Rw (PySem.W.view Rw.prog [102]) (HK.hook asAll [] (exG0) []) (fun s => HK.look asAll [] (exG0) [] (HandSHeadRun.getT s)) 9000 nmAll w := by
  intro os
  kernel_rfl
theorem runG1 (w : World) : HandSHeadRun.RunEq Rw (PySem.W.view Rw.prog [102]) (HK.hook asAll [] (exG1) []) (fun s => HK.look asAll [] (exG1) [] (HandSHeadRun.getT s)) 9000 nmAll w := by
  intro os
  kernel_rfl
theorem runAll (w : World) : HandSHeadRun.RunEq Rw (PySem.W.view Rw.prog [102]) hkAll obAll 9000 nmAll w := HK.run_join (HK.run_join (runF w) (runG0 w)) (runG1 w)
theorem facts {w : World} {K : Frag} {h : Heap} {mg : Str → Option Value} {fa : Addr} (c : HK.Says tsAll exAllK fsAll h K) (G : h.Ns mainGlobals mg) (hfa : mg "law" = some (.ref fa)) : WG.LawAtG PySem.Challenge.rw_watchkinds_k10_errors_of_boxes w K 14 63 "_law_script" mg fa h := by
  have X := c.ex
  obtain ⟨X, Y1⟩ := Bool.and_eq_true_iff.mp X
  obtain ⟨X, Y0⟩ := Bool.and_eq_true_iff.mp X
  obtain ⟨E0, Y0⟩ := Bool.and_eq_true_iff.mp Y0
  have E0 : (He.eqO (PySem.W.nsIn K mainGlobals "Box") (some (some (.ref 743))) && (He.eqO (PySem.W.nsIn K mainGlobals "Made") (some (some (.ref 218))) && (He.eqO (PySem.W.nsIn K mainGlobals "Machine") (some (some (.ref 550))) && (He.eqO (PySem.W.nsIn K mainGlobals "InvalidWord") (some (some (.ref 44))) && (He.eqO (PySem.W.nsIn K mainGlobals "InvalidMachine") (some (some (.ref 56))) && (He.eqO (PySem.W.nsIn K mainGlobals "InvalidBox") (some (some (.ref 68))) && (He.eqO (PySem.W.nsIn K mainGlobals "InvalidOperation") (some (some (.ref 80))) && (He.eqO (PySem.W.nsIn K mainGlobals "ParseError") (some (some (.ref 99))) && (He.eqO (PySem.W.nsIn K mainGlobals "UnknownName") (some (some (.ref 118))) && (He.eqO (PySem.W.nsIn K mainGlobals "InvalidNumber") (some (some (.ref 138))) && (He.eqO (PySem.W.nsIn K mainGlobals "TooMany") (some (some (.ref 158))) && ((PySem.W.plainGet K 743 Str.empty) && ((PySem.W.hasDictIn K 743) && ((PySem.W.plainOver K 743) && (He.eqO (PySem.W.findIn K (.ref 743) "__setattr__") (some (some (.builtin "object.__setattr__"))) && (He.eqO (PySem.W.findIn K (.ref 743) "__class__") (some (some (.builtin "object.__class__"))) && (decide (PySem.W.mroIn K 743 (.type "object") = some true) && ((PySem.W.makesIn K 743) && ((PySem.W.keepIn K (.ref 743)) && (He.eqO (PySem.W.findIn K (.ref 743) "__init__") (some (some (.ref 595))) && ((PySem.W.isFn K (.ref 595)) && (((tyNames.all fun t => kitOne K (.type t) (.ref 743) == some false)) && ((PySem.W.plainGet K 218 Str.empty) && ((PySem.W.hasDictIn K 218) && ((PySem.W.plainOver K 218) && (He.eqO (PySem.W.findIn K (.ref 218) "__setattr__") (some (some (.builtin "object.__setattr__"))) && (He.eqO (PySem.W.findIn K (.ref 218) "__class__") (some (some (.builtin "object.__class__"))) && (decide (PySem.W.mroIn K 218 (.type "object") = some true) && ((PySem.W.makesIn K 218) && ((PySem.W.keepIn K (.ref 218)) && true)))))))))))))))))))))))))))))) = true := E0
  obtain ⟨S, E0⟩ := Bool.and_eq_true_iff.mp E0
  have gb : PySem.W.nsIn K mainGlobals "Box" = some (some (.ref 743)) := He.eqO_ok S
  obtain ⟨S, E0⟩ := Bool.and_eq_true_iff.mp E0
  have gd : PySem.W.nsIn K mainGlobals "Made" = some (some (.ref 218)) := He.eqO_ok S
  obtain ⟨S, E0⟩ := Bool.and_eq_true_iff.mp E0
  have gm : PySem.W.nsIn K mainGlobals "Machine" = some (some (.ref 550)) := He.eqO_ok S
  obtain ⟨S, E0⟩ := Bool.and_eq_true_iff.mp E0
  have geW : PySem.W.nsIn K mainGlobals "InvalidWord" = some (some (.ref 44)) := He.eqO_ok S
  obtain ⟨S, E0⟩ := Bool.and_eq_true_iff.mp E0
  have geM : PySem.W.nsIn K mainGlobals "InvalidMachine" = some (some (.ref 56)) := He.eqO_ok S
  obtain ⟨S, E0⟩ := Bool.and_eq_true_iff.mp E0
  have geB : PySem.W.nsIn K mainGlobals "InvalidBox" = some (some (.ref 68)) := He.eqO_ok S
  obtain ⟨S, E0⟩ := Bool.and_eq_true_iff.mp E0
  have geO : PySem.W.nsIn K mainGlobals "InvalidOperation" = some (some (.ref 80)) := He.eqO_ok S
  obtain ⟨S, E0⟩ := Bool.and_eq_true_iff.mp E0
  have geP : PySem.W.nsIn K mainGlobals "ParseError" = some (some (.ref 99)) := He.eqO_ok S
  obtain ⟨S, E0⟩ := Bool.and_eq_true_iff.mp E0
  have geU : PySem.W.nsIn K mainGlobals "UnknownName" = some (some (.ref 118)) := He.eqO_ok S
  obtain ⟨S, E0⟩ := Bool.and_eq_true_iff.mp E0
  have geN : PySem.W.nsIn K mainGlobals "InvalidNumber" = some (some (.ref 138)) := He.eqO_ok S
  obtain ⟨S, E0⟩ := Bool.and_eq_true_iff.mp E0
  have geT : PySem.W.nsIn K mainGlobals "TooMany" = some (some (.ref 158)) := He.eqO_ok S
  obtain ⟨S, E0⟩ := Bool.and_eq_true_iff.mp E0
  have pgb : PySem.W.plainGet K 743 Str.empty = true := S
  obtain ⟨S, E0⟩ := Bool.and_eq_true_iff.mp E0
  have hdb : PySem.W.hasDictIn K 743 = true := S
  obtain ⟨S, E0⟩ := Bool.and_eq_true_iff.mp E0
  have pob : PySem.W.plainOver K 743 = true := S
  obtain ⟨S, E0⟩ := Bool.and_eq_true_iff.mp E0
  have sab : PySem.W.findIn K (.ref 743) "__setattr__" = some (some (.builtin "object.__setattr__")) := He.eqO_ok S
  obtain ⟨S, E0⟩ := Bool.and_eq_true_iff.mp E0
  have ccb : PySem.W.findIn K (.ref 743) "__class__" = some (some (.builtin "object.__class__")) := He.eqO_ok S
  obtain ⟨S, E0⟩ := Bool.and_eq_true_iff.mp E0
  have obb : PySem.W.mroIn K 743 (.type "object") = some true := of_decide_eq_true S
  obtain ⟨S, E0⟩ := Bool.and_eq_true_iff.mp E0
  have mkb : PySem.W.makesIn K 743 = true := S
  obtain ⟨S, E0⟩ := Bool.and_eq_true_iff.mp E0
  have kCb : PySem.W.keepIn K (.ref 743) = true := S
  obtain ⟨S, E0⟩ := Bool.and_eq_true_iff.mp E0
  have ib : PySem.W.findIn K (.ref 743) "__init__" = some (some (.ref 595)) := He.eqO_ok S
  obtain ⟨S, E0⟩ := Bool.and_eq_true_iff.mp E0
  have nib : PySem.W.isFn K (.ref 595) = true := S
  obtain ⟨S, E0⟩ := Bool.and_eq_true_iff.mp E0
  have ncb : (tyNames.all fun t => kitOne K (.type t) (.ref 743) == some false) = true := S
  obtain ⟨S, E0⟩ := Bool.and_eq_true_iff.mp E0
  have pgd : PySem.W.plainGet K 218 Str.empty = true := S
  obtain ⟨S, E0⟩ := Bool.and_eq_true_iff.mp E0
  have hdd : PySem.W.hasDictIn K 218 = true := S
  obtain ⟨S, E0⟩ := Bool.and_eq_true_iff.mp E0
  have pod : PySem.W.plainOver K 218 = true := S
  obtain ⟨S, E0⟩ := Bool.and_eq_true_iff.mp E0
  have sad : PySem.W.findIn K (.ref 218) "__setattr__" = some (some (.builtin "object.__setattr__")) := He.eqO_ok S
  obtain ⟨S, E0⟩ := Bool.and_eq_true_iff.mp E0
  have ccd : PySem.W.findIn K (.ref 218) "__class__" = some (some (.builtin "object.__class__")) := He.eqO_ok S
  obtain ⟨S, E0⟩ := Bool.and_eq_true_iff.mp E0
  have obd : PySem.W.mroIn K 218 (.type "object") = some true := of_decide_eq_true S
  obtain ⟨S, E0⟩ := Bool.and_eq_true_iff.mp E0
  have mkd : PySem.W.makesIn K 218 = true := S
  obtain ⟨S, E0⟩ := Bool.and_eq_true_iff.mp E0
  have kCd : PySem.W.keepIn K (.ref 218) = true := S
  obtain ⟨E1, Y0⟩ := Bool.and_eq_true_iff.mp Y0
  have E1 : (He.eqO (PySem.W.findIn K (.ref 218) "__init__") (some (some (.ref 215))) && ((PySem.W.isFn K (.ref 215)) && (((tyNames.all fun t => kitOne K (.type t) (.ref 218) == some false)) && ((PySem.W.plainGet K 550 Str.empty) && ((PySem.W.hasDictIn K 550) && ((PySem.W.plainOver K 550) && (He.eqO (PySem.W.findIn K (.ref 550) "__setattr__") (some (some (.builtin "object.__setattr__"))) && (He.eqO (PySem.W.findIn K (.ref 550) "__class__") (some (some (.builtin "object.__class__"))) && (decide (PySem.W.mroIn K 550 (.type "object") = some true) && ((PySem.W.makesIn K 550) && ((PySem.W.keepIn K (.ref 550)) && (He.eqO (PySem.W.findIn K (.ref 550) "__init__") (some (some (.ref 424))) && ((PySem.W.isFn K (.ref 424)) && (((tyNames.all fun t => kitOne K (.type t) (.ref 550) == some false)) && (He.eqO (PySem.W.specialIn K (.builtin "object.__class__") "__get__") (some (some (.builtin "getset_descriptor.__get__"))) && (decide (PySem.W.takesIn K (.builtin "object.__class__") = some true) && (He.eqO (PySem.W.findIn K (.ref 743) "_table") (some none) && (He.eqO (PySem.W.findIn K (.ref 743) "_letters") (some none) && (He.eqO (PySem.W.findIn K (.ref 218) "rows") (some none) && (He.eqO (PySem.W.findIn K (.ref 550) "_table") (some none) && (He.eqO (PySem.W.findIn K (.ref 550) "_letters") (some none) && (He.eqO (PySem.W.findIn K (.ref 550) "_ends") (some none) && ((PySem.W.readsIn K 743 (.type "type")) && (He.eqO (PySem.W.specialIn K (.ref 743) "__getattribute__") (some (some (.builtin "type.__getattribute__"))) && (HK.clsB K 743 "window" 604 && (HK.recB K 604 "classmethod" 602 && ((PySem.W.fnIn K 602) && (HK.clsB K 743 "heads" 614 && (HK.recB K 614 "classmethod" 612 && ((PySem.W.fnIn K 612) && true)))))))))))))))))))))))))))))) = true := E1
  obtain ⟨S, E1⟩ := Bool.and_eq_true_iff.mp E1
  have id : PySem.W.findIn K (.ref 218) "__init__" = some (some (.ref 215)) := He.eqO_ok S
  obtain ⟨S, E1⟩ := Bool.and_eq_true_iff.mp E1
  have nid : PySem.W.isFn K (.ref 215) = true := S
  obtain ⟨S, E1⟩ := Bool.and_eq_true_iff.mp E1
  have ncd : (tyNames.all fun t => kitOne K (.type t) (.ref 218) == some false) = true := S
  obtain ⟨S, E1⟩ := Bool.and_eq_true_iff.mp E1
  have pgm : PySem.W.plainGet K 550 Str.empty = true := S
  obtain ⟨S, E1⟩ := Bool.and_eq_true_iff.mp E1
  have hdm : PySem.W.hasDictIn K 550 = true := S
  obtain ⟨S, E1⟩ := Bool.and_eq_true_iff.mp E1
  have pom : PySem.W.plainOver K 550 = true := S
  obtain ⟨S, E1⟩ := Bool.and_eq_true_iff.mp E1
  have sam : PySem.W.findIn K (.ref 550) "__setattr__" = some (some (.builtin "object.__setattr__")) := He.eqO_ok S
  obtain ⟨S, E1⟩ := Bool.and_eq_true_iff.mp E1
  have ccm : PySem.W.findIn K (.ref 550) "__class__" = some (some (.builtin "object.__class__")) := He.eqO_ok S
  obtain ⟨S, E1⟩ := Bool.and_eq_true_iff.mp E1
  have obm : PySem.W.mroIn K 550 (.type "object") = some true := of_decide_eq_true S
  obtain ⟨S, E1⟩ := Bool.and_eq_true_iff.mp E1
  have mkm : PySem.W.makesIn K 550 = true := S
  obtain ⟨S, E1⟩ := Bool.and_eq_true_iff.mp E1
  have kCm : PySem.W.keepIn K (.ref 550) = true := S
  obtain ⟨S, E1⟩ := Bool.and_eq_true_iff.mp E1
  have im : PySem.W.findIn K (.ref 550) "__init__" = some (some (.ref 424)) := He.eqO_ok S
  obtain ⟨S, E1⟩ := Bool.and_eq_true_iff.mp E1
  have nim : PySem.W.isFn K (.ref 424) = true := S
  obtain ⟨S, E1⟩ := Bool.and_eq_true_iff.mp E1
  have ncm : (tyNames.all fun t => kitOne K (.type t) (.ref 550) == some false) = true := S
  obtain ⟨S, E1⟩ := Bool.and_eq_true_iff.mp E1
  have cn : PySem.W.specialIn K (.builtin "object.__class__") "__get__" = some (some (.builtin "getset_descriptor.__get__")) := He.eqO_ok S
  obtain ⟨S, E1⟩ := Bool.and_eq_true_iff.mp E1
  have ct : PySem.W.takesIn K (.builtin "object.__class__") = some true := of_decide_eq_true S
  obtain ⟨S, E1⟩ := Bool.and_eq_true_iff.mp E1
  have nT : PySem.W.findIn K (.ref 743) "_table" = some none := He.eqO_ok S
  obtain ⟨S, E1⟩ := Bool.and_eq_true_iff.mp E1
  have nL : PySem.W.findIn K (.ref 743) "_letters" = some none := He.eqO_ok S
  obtain ⟨S, E1⟩ := Bool.and_eq_true_iff.mp E1
  have nR : PySem.W.findIn K (.ref 218) "rows" = some none := He.eqO_ok S
  obtain ⟨S, E1⟩ := Bool.and_eq_true_iff.mp E1
  have nMT : PySem.W.findIn K (.ref 550) "_table" = some none := He.eqO_ok S
  obtain ⟨S, E1⟩ := Bool.and_eq_true_iff.mp E1
  have nML : PySem.W.findIn K (.ref 550) "_letters" = some none := He.eqO_ok S
  obtain ⟨S, E1⟩ := Bool.and_eq_true_iff.mp E1
  have nME : PySem.W.findIn K (.ref 550) "_ends" = some none := He.eqO_ok S
  obtain ⟨S, E1⟩ := Bool.and_eq_true_iff.mp E1
  have rd : PySem.W.readsIn K 743 (.type "type") = true := S
  obtain ⟨S, E1⟩ := Bool.and_eq_true_iff.mp E1
  have ga : PySem.W.specialIn K (.ref 743) "__getattribute__" = some (some (.builtin "type.__getattribute__")) := He.eqO_ok S
  obtain ⟨S, E1⟩ := Bool.and_eq_true_iff.mp E1
  have cmW := HK.cls_ns S
  obtain ⟨S, E1⟩ := Bool.and_eq_true_iff.mp E1
  obtain ⟨_, crW⟩ := HK.rec_ns S
  obtain ⟨S, E1⟩ := Bool.and_eq_true_iff.mp E1
  have cfW : PySem.W.fnIn K 602 = true := S
  obtain ⟨S, E1⟩ := Bool.and_eq_true_iff.mp E1
  have cmH := HK.cls_ns S
  obtain ⟨S, E1⟩ := Bool.and_eq_true_iff.mp E1
  obtain ⟨_, crH⟩ := HK.rec_ns S
  obtain ⟨S, E1⟩ := Bool.and_eq_true_iff.mp E1
  have cfH : PySem.W.fnIn K 612 = true := S
  obtain ⟨E2, Y0⟩ := Bool.and_eq_true_iff.mp Y0
  have E2 : (HK.clsB K 743 "pieces" 624 && (HK.recB K 624 "classmethod" 622 && ((PySem.W.fnIn K 622) && (HK.clsB K 743 "caps" 634 && (HK.recB K 634 "classmethod" 632 && ((PySem.W.fnIn K 632) && (HK.clsB K 743 "rests" 644 && (HK.recB K 644 "classmethod" 642 && ((PySem.W.fnIn K 642) && (HK.clsB K 743 "clerk" 654 && (HK.recB K 654 "classmethod" 652 && ((PySem.W.fnIn K 652) && (He.eqO (PySem.W.findIn K (.ref 743) "letters") (some (some (.ref 663))) && (He.eqO (PySem.W.specialIn K (.ref 663) "__get__") (some (some (.builtin "property.__get__"))) && (decide (PySem.W.takesIn K (.ref 663) = some true) && (HK.recB K 663 "property" 662 && (He.eqO (PySem.W.findIn K (.ref 550) "letters") (some (some (.ref 432))) && (He.eqO (PySem.W.specialIn K (.ref 432) "__get__") (some (some (.builtin "property.__get__"))) && (decide (PySem.W.takesIn K (.ref 432) = some true) && (HK.recB K 432 "property" 431 && (He.eqO (PySem.W.findIn K (.ref 743) "__call__") (some (some (.ref 678))) && ((PySem.W.isFn K (.ref 678)) && (He.eqO (PySem.W.findIn K (.ref 743) "place") (some (some (.ref 686))) && ((PySem.W.isFn K (.ref 686)) && (He.eqO (PySem.W.findIn K (.ref 743) "action") (some (some (.ref 691))) && ((PySem.W.isFn K (.ref 691)) && (He.eqO (PySem.W.findIn K (.ref 743) "first_word") (some (some (.ref 698))) && ((PySem.W.isFn K (.ref 698)) && (He.eqO (PySem.W.findIn K (.ref 743) "machine") (some (some (.ref 712))) && ((PySem.W.isFn K (.ref 712)) && true)))))))))))))))))))))))))))))) = true := E2
  obtain ⟨S, E2⟩ := Bool.and_eq_true_iff.mp E2
  have cmE := HK.cls_ns S
  obtain ⟨S, E2⟩ := Bool.and_eq_true_iff.mp E2
  obtain ⟨_, crE⟩ := HK.rec_ns S
  obtain ⟨S, E2⟩ := Bool.and_eq_true_iff.mp E2
  have cfE : PySem.W.fnIn K 622 = true := S
  obtain ⟨S, E2⟩ := Bool.and_eq_true_iff.mp E2
  have cmA := HK.cls_ns S
  obtain ⟨S, E2⟩ := Bool.and_eq_true_iff.mp E2
  obtain ⟨_, crA⟩ := HK.rec_ns S
  obtain ⟨S, E2⟩ := Bool.and_eq_true_iff.mp E2
  have cfA : PySem.W.fnIn K 632 = true := S
  obtain ⟨S, E2⟩ := Bool.and_eq_true_iff.mp E2
  have cmR := HK.cls_ns S
  obtain ⟨S, E2⟩ := Bool.and_eq_true_iff.mp E2
  obtain ⟨_, crR⟩ := HK.rec_ns S
  obtain ⟨S, E2⟩ := Bool.and_eq_true_iff.mp E2
  have cfR : PySem.W.fnIn K 642 = true := S
  obtain ⟨S, E2⟩ := Bool.and_eq_true_iff.mp E2
  have cmK := HK.cls_ns S
  obtain ⟨S, E2⟩ := Bool.and_eq_true_iff.mp E2
  obtain ⟨_, crK⟩ := HK.rec_ns S
  obtain ⟨S, E2⟩ := Bool.and_eq_true_iff.mp E2
  have cfK : PySem.W.fnIn K 652 = true := S
  obtain ⟨S, E2⟩ := Bool.and_eq_true_iff.mp E2
  have pal : PySem.W.findIn K (.ref 743) "letters" = some (some (.ref 663)) := He.eqO_ok S
  obtain ⟨S, E2⟩ := Bool.and_eq_true_iff.mp E2
  have pg_l : PySem.W.specialIn K (.ref 663) "__get__" = some (some (.builtin "property.__get__")) := He.eqO_ok S
  obtain ⟨S, E2⟩ := Bool.and_eq_true_iff.mp E2
  have pt_l : PySem.W.takesIn K (.ref 663) = some true := of_decide_eq_true S
  obtain ⟨S, E2⟩ := Bool.and_eq_true_iff.mp E2
  obtain ⟨_, pr_l⟩ := HK.rec_ns S
  obtain ⟨S, E2⟩ := Bool.and_eq_true_iff.mp E2
  have paml : PySem.W.findIn K (.ref 550) "letters" = some (some (.ref 432)) := He.eqO_ok S
  obtain ⟨S, E2⟩ := Bool.and_eq_true_iff.mp E2
  have pg_ml : PySem.W.specialIn K (.ref 432) "__get__" = some (some (.builtin "property.__get__")) := He.eqO_ok S
  obtain ⟨S, E2⟩ := Bool.and_eq_true_iff.mp E2
  have pt_ml : PySem.W.takesIn K (.ref 432) = some true := of_decide_eq_true S
  obtain ⟨S, E2⟩ := Bool.and_eq_true_iff.mp E2
  obtain ⟨_, pr_ml⟩ := HK.rec_ns S
  obtain ⟨S, E2⟩ := Bool.and_eq_true_iff.mp E2
  have a61 : PySem.W.findIn K (.ref 743) "__call__" = some (some (.ref 678)) := He.eqO_ok S
  obtain ⟨S, E2⟩ := Bool.and_eq_true_iff.mp E2
  have n61 : PySem.W.isFn K (.ref 678) = true := S
  obtain ⟨S, E2⟩ := Bool.and_eq_true_iff.mp E2
  have a62 : PySem.W.findIn K (.ref 743) "place" = some (some (.ref 686)) := He.eqO_ok S
  obtain ⟨S, E2⟩ := Bool.and_eq_true_iff.mp E2
  have n62 : PySem.W.isFn K (.ref 686) = true := S
  obtain ⟨S, E2⟩ := Bool.and_eq_true_iff.mp E2
  have a63 : PySem.W.findIn K (.ref 743) "action" = some (some (.ref 691)) := He.eqO_ok S
  obtain ⟨S, E2⟩ := Bool.and_eq_true_iff.mp E2
  have n63 : PySem.W.isFn K (.ref 691) = true := S
  obtain ⟨S, E2⟩ := Bool.and_eq_true_iff.mp E2
  have a64 : PySem.W.findIn K (.ref 743) "first_word" = some (some (.ref 698)) := He.eqO_ok S
  obtain ⟨S, E2⟩ := Bool.and_eq_true_iff.mp E2
  have n64 : PySem.W.isFn K (.ref 698) = true := S
  obtain ⟨S, E2⟩ := Bool.and_eq_true_iff.mp E2
  have a65 : PySem.W.findIn K (.ref 743) "machine" = some (some (.ref 712)) := He.eqO_ok S
  obtain ⟨S, E2⟩ := Bool.and_eq_true_iff.mp E2
  have n65 : PySem.W.isFn K (.ref 712) = true := S
  obtain ⟨E3, Y0⟩ := Bool.and_eq_true_iff.mp Y0
  have E3 : (He.eqO (PySem.W.findIn K (.ref 743) "__and__") (some (some (.ref 719))) && ((PySem.W.isFn K (.ref 719)) && (He.eqO (PySem.W.findIn K (.ref 743) "__len__") (some (some (.ref 726))) && ((PySem.W.isFn K (.ref 726)) && ((PySem.W.fnIn K 678) && ((PySem.W.selfFirst K 743) && (He.eqO (PySem.W.findIn K (.ref 743) (dunderR "and")) (some none) && (((tyNames.all fun t => PySem.W.subIn K (.type t) (.ref 743) == some false)) && (decide (kitOne K (.ref 743) (.ref 743) = some true) && (decide (kitOne K (.ref 550) (.ref 550) = some true) && (((plainTys.all fun t => kitOne K (.type t) (.ref 218) == some false)) && (decide (kitOne K (.type "tuple") (.ref 218) = some false) && ((PySem.W.excIn K 44 [.type "ValueError", .type "Exception", .type "BaseException", .type "object"] "ValueError.__new__") && ((PySem.W.keepIn K (.ref 44)) && (decide (PySem.W.subIn K (.ref 44) (.type "BaseException") = some true) && (decide (PySem.W.typeIn K (.ref 44) = some (.type "type")) && ((PySem.W.excIn K 56 [.type "ValueError", .type "Exception", .type "BaseException", .type "object"] "ValueError.__new__") && ((PySem.W.keepIn K (.ref 56)) && (decide (PySem.W.subIn K (.ref 56) (.type "BaseException") = some true) && (decide (PySem.W.typeIn K (.ref 56) = some (.type "type")) && ((PySem.W.excIn K 68 [.type "ValueError", .type "Exception", .type "BaseException", .type "object"] "ValueError.__new__") && ((PySem.W.keepIn K (.ref 68)) && (decide (PySem.W.subIn K (.ref 68) (.type "BaseException") = some true) && (decide (PySem.W.typeIn K (.ref 68) = some (.type "type")) && ((PySem.W.excIn K 80 [.type "ValueError", .type "Exception", .type "BaseException", .type "object"] "ValueError.__new__") && ((PySem.W.keepIn K (.ref 80)) && (decide (PySem.W.subIn K (.ref 80) (.type "BaseException") = some true) && (decide (PySem.W.typeIn K (.ref 80) = some (.type "type")) && ((WE.errB K 138) && (He.eqO (PySem.W.findIn K (.ref 138) "__init__") (some (some (.ref 135))) && true)))))))))))))))))))))))))))))) = true := E3
  obtain ⟨S, E3⟩ := Bool.and_eq_true_iff.mp E3
  have a66 : PySem.W.findIn K (.ref 743) "__and__" = some (some (.ref 719)) := He.eqO_ok S
  obtain ⟨S, E3⟩ := Bool.and_eq_true_iff.mp E3
  have n66 : PySem.W.isFn K (.ref 719) = true := S
  obtain ⟨S, E3⟩ := Bool.and_eq_true_iff.mp E3
  have a67 : PySem.W.findIn K (.ref 743) "__len__" = some (some (.ref 726)) := He.eqO_ok S
  obtain ⟨S, E3⟩ := Bool.and_eq_true_iff.mp E3
  have n67 : PySem.W.isFn K (.ref 726) = true := S
  obtain ⟨S, E3⟩ := Bool.and_eq_true_iff.mp E3
  have fiC : PySem.W.fnIn K 678 = true := S
  obtain ⟨S, E3⟩ := Bool.and_eq_true_iff.mp E3
  have sf : PySem.W.selfFirst K 743 = true := S
  obtain ⟨S, E3⟩ := Bool.and_eq_true_iff.mp E3
  have nor : PySem.W.findIn K (.ref 743) (dunderR "and") = some none := He.eqO_ok S
  obtain ⟨S, E3⟩ := Bool.and_eq_true_iff.mp E3
  have sub : (tyNames.all fun t => PySem.W.subIn K (.type t) (.ref 743) == some false) = true := S
  obtain ⟨S, E3⟩ := Bool.and_eq_true_iff.mp E3
  have ki : kitOne K (.ref 743) (.ref 743) = some true := of_decide_eq_true S
  obtain ⟨S, E3⟩ := Bool.and_eq_true_iff.mp E3
  have kim : kitOne K (.ref 550) (.ref 550) = some true := of_decide_eq_true S
  obtain ⟨S, E3⟩ := Bool.and_eq_true_iff.mp E3
  have kitD : (plainTys.all fun t => kitOne K (.type t) (.ref 218) == some false) = true := S
  obtain ⟨S, E3⟩ := Bool.and_eq_true_iff.mp E3
  have kt : kitOne K (.type "tuple") (.ref 218) = some false := of_decide_eq_true S
  obtain ⟨S, E3⟩ := Bool.and_eq_true_iff.mp E3
  have xeW : PySem.W.excIn K 44 [.type "ValueError", .type "Exception", .type "BaseException", .type "object"] "ValueError.__new__" = true := S
  obtain ⟨S, E3⟩ := Bool.and_eq_true_iff.mp E3
  have keW : PySem.W.keepIn K (.ref 44) = true := S
  obtain ⟨S, E3⟩ := Bool.and_eq_true_iff.mp E3
  have beW : PySem.W.subIn K (.ref 44) (.type "BaseException") = some true := of_decide_eq_true S
  obtain ⟨S, E3⟩ := Bool.and_eq_true_iff.mp E3
  have teW : PySem.W.typeIn K (.ref 44) = some (.type "type") := of_decide_eq_true S
  obtain ⟨S, E3⟩ := Bool.and_eq_true_iff.mp E3
  have xeM : PySem.W.excIn K 56 [.type "ValueError", .type "Exception", .type "BaseException", .type "object"] "ValueError.__new__" = true := S
  obtain ⟨S, E3⟩ := Bool.and_eq_true_iff.mp E3
  have keM : PySem.W.keepIn K (.ref 56) = true := S
  obtain ⟨S, E3⟩ := Bool.and_eq_true_iff.mp E3
  have beM : PySem.W.subIn K (.ref 56) (.type "BaseException") = some true := of_decide_eq_true S
  obtain ⟨S, E3⟩ := Bool.and_eq_true_iff.mp E3
  have teM : PySem.W.typeIn K (.ref 56) = some (.type "type") := of_decide_eq_true S
  obtain ⟨S, E3⟩ := Bool.and_eq_true_iff.mp E3
  have xeB : PySem.W.excIn K 68 [.type "ValueError", .type "Exception", .type "BaseException", .type "object"] "ValueError.__new__" = true := S
  obtain ⟨S, E3⟩ := Bool.and_eq_true_iff.mp E3
  have keB : PySem.W.keepIn K (.ref 68) = true := S
  obtain ⟨S, E3⟩ := Bool.and_eq_true_iff.mp E3
  have beB : PySem.W.subIn K (.ref 68) (.type "BaseException") = some true := of_decide_eq_true S
  obtain ⟨S, E3⟩ := Bool.and_eq_true_iff.mp E3
  have teB : PySem.W.typeIn K (.ref 68) = some (.type "type") := of_decide_eq_true S
  obtain ⟨S, E3⟩ := Bool.and_eq_true_iff.mp E3
  have xeO : PySem.W.excIn K 80 [.type "ValueError", .type "Exception", .type "BaseException", .type "object"] "ValueError.__new__" = true := S
  obtain ⟨S, E3⟩ := Bool.and_eq_true_iff.mp E3
  have keO : PySem.W.keepIn K (.ref 80) = true := S
  obtain ⟨S, E3⟩ := Bool.and_eq_true_iff.mp E3
  have beO : PySem.W.subIn K (.ref 80) (.type "BaseException") = some true := of_decide_eq_true S
  obtain ⟨S, E3⟩ := Bool.and_eq_true_iff.mp E3
  have teO : PySem.W.typeIn K (.ref 80) = some (.type "type") := of_decide_eq_true S
  obtain ⟨S, E3⟩ := Bool.and_eq_true_iff.mp E3
  have ebN : WE.errB K 138 = true := S
  obtain ⟨S, E3⟩ := Bool.and_eq_true_iff.mp E3
  have ieN : PySem.W.findIn K (.ref 138) "__init__" = some (some (.ref 135)) := He.eqO_ok S
  obtain ⟨E4, Y0⟩ := Bool.and_eq_true_iff.mp Y0
  have E4 : ((WE.errI K 138 135 [.type "RuntimeError", .type "Exception", .type "BaseException", .type "object"] "RuntimeError.__new__" "value") && (decide (PySem.W.typeIn K (.ref 138) = some (.type "type")) && (He.eqO (PySem.W.findIn K (.ref 138) "value") (some none) && ((WE.errB K 158) && (He.eqO (PySem.W.findIn K (.ref 158) "__init__") (some (some (.ref 155))) && ((WE.errI K 158 155 [.type "OverflowError", .type "ArithmeticError", .type "Exception", .type "BaseException", .type "object"] "OverflowError.__new__" "limit") && (decide (PySem.W.typeIn K (.ref 158) = some (.type "type")) && (He.eqO (PySem.W.findIn K (.ref 158) "limit") (some none) && (decide (PySem.W.exmOne K (.ref 44) (.ref 44) = some true) && (decide (PySem.W.exmOne K (.ref 56) (.ref 44) = some false) && (decide (PySem.W.exmOne K (.ref 56) (.ref 56) = some true) && (decide (PySem.W.exmOne K (.ref 68) (.ref 44) = some false) && (decide (PySem.W.exmOne K (.ref 68) (.ref 56) = some false) && (decide (PySem.W.exmOne K (.ref 68) (.ref 68) = some true) && (decide (PySem.W.exmOne K (.ref 80) (.ref 44) = some false) && (decide (PySem.W.exmOne K (.ref 80) (.ref 56) = some false) && (decide (PySem.W.exmOne K (.ref 80) (.ref 68) = some false) && (decide (PySem.W.exmOne K (.ref 80) (.ref 80) = some true) && (decide (PySem.W.exmOne K (.ref 138) (.ref 44) = some false) && (decide (PySem.W.exmOne K (.ref 138) (.ref 56) = some false) && (decide (PySem.W.exmOne K (.ref 138) (.ref 68) = some false) && (decide (PySem.W.exmOne K (.ref 138) (.ref 80) = some false) && (decide (PySem.W.exmOne K (.ref 138) (.ref 99) = some false) && (decide (PySem.W.exmOne K (.ref 138) (.ref 118) = some false) && (decide (PySem.W.exmOne K (.ref 138) (.ref 138) = some true) && (decide (PySem.W.exmOne K (.ref 158) (.ref 44) = some false) && (decide (PySem.W.exmOne K (.ref 158) (.ref 56) = some false) && (decide (PySem.W.exmOne K (.ref 158) (.ref 68) = some false) && (decide (PySem.W.exmOne K (.ref 158) (.ref 80) = some false) && (decide (PySem.W.exmOne K (.ref 158) (.ref 99) = some false) && true)))))))))))))))))))))))))))))) = true := E4
  obtain ⟨S, E4⟩ := Bool.and_eq_true_iff.mp E4
  have eiN : WE.errI K 138 135 [.type "RuntimeError", .type "Exception", .type "BaseException", .type "object"] "RuntimeError.__new__" "value" = true := S
  obtain ⟨S, E4⟩ := Bool.and_eq_true_iff.mp E4
  have teN : PySem.W.typeIn K (.ref 138) = some (.type "type") := of_decide_eq_true S
  obtain ⟨S, E4⟩ := Bool.and_eq_true_iff.mp E4
  have noN : PySem.W.findIn K (.ref 138) "value" = some none := He.eqO_ok S
  obtain ⟨S, E4⟩ := Bool.and_eq_true_iff.mp E4
  have ebT : WE.errB K 158 = true := S
  obtain ⟨S, E4⟩ := Bool.and_eq_true_iff.mp E4
  have ieT : PySem.W.findIn K (.ref 158) "__init__" = some (some (.ref 155)) := He.eqO_ok S
  obtain ⟨S, E4⟩ := Bool.and_eq_true_iff.mp E4
  have eiT : WE.errI K 158 155 [.type "OverflowError", .type "ArithmeticError", .type "Exception", .type "BaseException", .type "object"] "OverflowError.__new__" "limit" = true := S
  obtain ⟨S, E4⟩ := Bool.and_eq_true_iff.mp E4
  have teT : PySem.W.typeIn K (.ref 158) = some (.type "type") := of_decide_eq_true S
  obtain ⟨S, E4⟩ := Bool.and_eq_true_iff.mp E4
  have noT : PySem.W.findIn K (.ref 158) "limit" = some none := He.eqO_ok S
  obtain ⟨S, E4⟩ := Bool.and_eq_true_iff.mp E4
  have x_ww : PySem.W.exmOne K (.ref 44) (.ref 44) = some true := of_decide_eq_true S
  obtain ⟨S, E4⟩ := Bool.and_eq_true_iff.mp E4
  have x_mw : PySem.W.exmOne K (.ref 56) (.ref 44) = some false := of_decide_eq_true S
  obtain ⟨S, E4⟩ := Bool.and_eq_true_iff.mp E4
  have x_mm : PySem.W.exmOne K (.ref 56) (.ref 56) = some true := of_decide_eq_true S
  obtain ⟨S, E4⟩ := Bool.and_eq_true_iff.mp E4
  have x_bw : PySem.W.exmOne K (.ref 68) (.ref 44) = some false := of_decide_eq_true S
  obtain ⟨S, E4⟩ := Bool.and_eq_true_iff.mp E4
  have x_bm : PySem.W.exmOne K (.ref 68) (.ref 56) = some false := of_decide_eq_true S
  obtain ⟨S, E4⟩ := Bool.and_eq_true_iff.mp E4
  have x_bb : PySem.W.exmOne K (.ref 68) (.ref 68) = some true := of_decide_eq_true S
  obtain ⟨S, E4⟩ := Bool.and_eq_true_iff.mp E4
  have x_ow : PySem.W.exmOne K (.ref 80) (.ref 44) = some false := of_decide_eq_true S
  obtain ⟨S, E4⟩ := Bool.and_eq_true_iff.mp E4
  have x_om : PySem.W.exmOne K (.ref 80) (.ref 56) = some false := of_decide_eq_true S
  obtain ⟨S, E4⟩ := Bool.and_eq_true_iff.mp E4
  have x_ob : PySem.W.exmOne K (.ref 80) (.ref 68) = some false := of_decide_eq_true S
  obtain ⟨S, E4⟩ := Bool.and_eq_true_iff.mp E4
  have x_oo : PySem.W.exmOne K (.ref 80) (.ref 80) = some true := of_decide_eq_true S
  obtain ⟨S, E4⟩ := Bool.and_eq_true_iff.mp E4
  have x_nw : PySem.W.exmOne K (.ref 138) (.ref 44) = some false := of_decide_eq_true S
  obtain ⟨S, E4⟩ := Bool.and_eq_true_iff.mp E4
  have x_nm : PySem.W.exmOne K (.ref 138) (.ref 56) = some false := of_decide_eq_true S
  obtain ⟨S, E4⟩ := Bool.and_eq_true_iff.mp E4
  have x_nb : PySem.W.exmOne K (.ref 138) (.ref 68) = some false := of_decide_eq_true S
  obtain ⟨S, E4⟩ := Bool.and_eq_true_iff.mp E4
  have x_no : PySem.W.exmOne K (.ref 138) (.ref 80) = some false := of_decide_eq_true S
  obtain ⟨S, E4⟩ := Bool.and_eq_true_iff.mp E4
  have x_np : PySem.W.exmOne K (.ref 138) (.ref 99) = some false := of_decide_eq_true S
  obtain ⟨S, E4⟩ := Bool.and_eq_true_iff.mp E4
  have x_nu : PySem.W.exmOne K (.ref 138) (.ref 118) = some false := of_decide_eq_true S
  obtain ⟨S, E4⟩ := Bool.and_eq_true_iff.mp E4
  have x_nn : PySem.W.exmOne K (.ref 138) (.ref 138) = some true := of_decide_eq_true S
  obtain ⟨S, E4⟩ := Bool.and_eq_true_iff.mp E4
  have x_tw : PySem.W.exmOne K (.ref 158) (.ref 44) = some false := of_decide_eq_true S
  obtain ⟨S, E4⟩ := Bool.and_eq_true_iff.mp E4
  have x_tm : PySem.W.exmOne K (.ref 158) (.ref 56) = some false := of_decide_eq_true S
  obtain ⟨S, E4⟩ := Bool.and_eq_true_iff.mp E4
  have x_tb : PySem.W.exmOne K (.ref 158) (.ref 68) = some false := of_decide_eq_true S
  obtain ⟨S, E4⟩ := Bool.and_eq_true_iff.mp E4
  have x_to : PySem.W.exmOne K (.ref 158) (.ref 80) = some false := of_decide_eq_true S
  obtain ⟨S, E4⟩ := Bool.and_eq_true_iff.mp E4
  have x_tp : PySem.W.exmOne K (.ref 158) (.ref 99) = some false := of_decide_eq_true S
  obtain ⟨E5, Y0⟩ := Bool.and_eq_true_iff.mp Y0
  have E5 : (decide (PySem.W.exmOne K (.ref 158) (.ref 118) = some false) && (decide (PySem.W.exmOne K (.ref 158) (.ref 138) = some false) && (decide (PySem.W.exmOne K (.ref 158) (.ref 158) = some true) && (He.eqO (PySem.W.nsIn K mainGlobals "explored") (some (some (.ref 269))) && (HK.fnB K 269 "explored" (some 262) none none && ((PySem.W.keepIn K (.ref 269)) && (He.eqO (PySem.W.nsIn K mainGlobals "is_integer") (some (some (.ref 291))) && (HK.fnB K 291 "is_integer" none none none && ((PySem.W.keepIn K (.ref 291)) && (He.eqO (PySem.W.nsIn K mainGlobals "is_number") (some (some (.ref 298))) && (HK.fnB K 298 "is_number" none none none && ((PySem.W.keepIn K (.ref 298)) && (He.eqO (PySem.W.nsIn K mainGlobals "need_number") (some (some (.ref 305))) && (HK.fnB K 305 "need_number" none none none && ((PySem.W.keepIn K (.ref 305)) && (He.eqO (PySem.W.nsIn K mainGlobals "ascends") (some (some (.ref 317))) && (HK.fnB K 317 "ascends" none none none && ((PySem.W.keepIn K (.ref 317)) && (He.eqO (PySem.W.nsIn K mainGlobals "is_ascending") (some (some (.ref 322))) && (HK.fnB K 322 "is_ascending" none none none && ((PySem.W.keepIn K (.ref 322)) && (He.eqO (PySem.W.nsIn K mainGlobals "is_table") (some (some (.ref 337))) && (HK.fnB K 337 "is_table" none none none && ((PySem.W.keepIn K (.ref 337)) && (He.eqO (PySem.W.nsIn K mainGlobals "_is_row") (some (some (.ref 349))) && (HK.fnB K 349 "_is_row" none none none && ((PySem.W.keepIn K (.ref 349)) && (He.eqO (PySem.W.nsIn K mainGlobals "is_letters") (some (some (.ref 356))) && (HK.fnB K 356 "is_letters" none none none && ((PySem.W.keepIn K (.ref 356)) && true)))))))))))))))))))))))))))))) = true := E5
  obtain ⟨S, E5⟩ := Bool.and_eq_true_iff.mp E5
  have x_tu : PySem.W.exmOne K (.ref 158) (.ref 118) = some false := of_decide_eq_true S
  obtain ⟨S, E5⟩ := Bool.and_eq_true_iff.mp E5
  have x_tn : PySem.W.exmOne K (.ref 158) (.ref 138) = some false := of_decide_eq_true S
  obtain ⟨S, E5⟩ := Bool.and_eq_true_iff.mp E5
  have x_tt : PySem.W.exmOne K (.ref 158) (.ref 158) = some true := of_decide_eq_true S
  obtain ⟨S, E5⟩ := Bool.and_eq_true_iff.mp E5
  have d0 : PySem.W.nsIn K mainGlobals "explored" = some (some (.ref 269)) := He.eqO_ok S
  obtain ⟨S, E5⟩ := Bool.and_eq_true_iff.mp E5
  obtain ⟨_, kv0, _, _, cd0, _, _, _, _, l0, q0, kk0, oo0⟩ := HK.fn_ok (c.fn 0 rfl) S
  obtain ⟨S, E5⟩ := Bool.and_eq_true_iff.mp E5
  have k0 : PySem.W.keepIn K (.ref 269) = true := S
  obtain ⟨S, E5⟩ := Bool.and_eq_true_iff.mp E5
  have d1 : PySem.W.nsIn K mainGlobals "is_integer" = some (some (.ref 291)) := He.eqO_ok S
  obtain ⟨S, E5⟩ := Bool.and_eq_true_iff.mp E5
  obtain ⟨_, kv1, _, _, cd1, _, _, _, _, l1, q1, kk1, oo1⟩ := HK.fn_ok (c.fn 1 rfl) S
  obtain ⟨S, E5⟩ := Bool.and_eq_true_iff.mp E5
  have k1 : PySem.W.keepIn K (.ref 291) = true := S
  obtain ⟨S, E5⟩ := Bool.and_eq_true_iff.mp E5
  have d2 : PySem.W.nsIn K mainGlobals "is_number" = some (some (.ref 298)) := He.eqO_ok S
  obtain ⟨S, E5⟩ := Bool.and_eq_true_iff.mp E5
  obtain ⟨_, kv2, _, _, cd2, _, _, _, _, l2, q2, kk2, oo2⟩ := HK.fn_ok (c.fn 2 rfl) S
  obtain ⟨S, E5⟩ := Bool.and_eq_true_iff.mp E5
  have k2 : PySem.W.keepIn K (.ref 298) = true := S
  obtain ⟨S, E5⟩ := Bool.and_eq_true_iff.mp E5
  have d3 : PySem.W.nsIn K mainGlobals "need_number" = some (some (.ref 305)) := He.eqO_ok S
  obtain ⟨S, E5⟩ := Bool.and_eq_true_iff.mp E5
  obtain ⟨_, kv3, _, _, cd3, _, _, _, _, l3, q3, kk3, oo3⟩ := HK.fn_ok (c.fn 3 rfl) S
  obtain ⟨S, E5⟩ := Bool.and_eq_true_iff.mp E5
  have k3 : PySem.W.keepIn K (.ref 305) = true := S
  obtain ⟨S, E5⟩ := Bool.and_eq_true_iff.mp E5
  have d4 : PySem.W.nsIn K mainGlobals "ascends" = some (some (.ref 317)) := He.eqO_ok S
  obtain ⟨S, E5⟩ := Bool.and_eq_true_iff.mp E5
  obtain ⟨_, kv4, _, _, cd4, _, _, _, _, l4, q4, kk4, oo4⟩ := HK.fn_ok (c.fn 4 rfl) S
  obtain ⟨S, E5⟩ := Bool.and_eq_true_iff.mp E5
  have k4 : PySem.W.keepIn K (.ref 317) = true := S
  obtain ⟨S, E5⟩ := Bool.and_eq_true_iff.mp E5
  have d5 : PySem.W.nsIn K mainGlobals "is_ascending" = some (some (.ref 322)) := He.eqO_ok S
  obtain ⟨S, E5⟩ := Bool.and_eq_true_iff.mp E5
  obtain ⟨_, kv5, _, _, cd5, _, _, _, _, l5, q5, kk5, oo5⟩ := HK.fn_ok (c.fn 5 rfl) S
  obtain ⟨S, E5⟩ := Bool.and_eq_true_iff.mp E5
  have k5 : PySem.W.keepIn K (.ref 322) = true := S
  obtain ⟨S, E5⟩ := Bool.and_eq_true_iff.mp E5
  have d6 : PySem.W.nsIn K mainGlobals "is_table" = some (some (.ref 337)) := He.eqO_ok S
  obtain ⟨S, E5⟩ := Bool.and_eq_true_iff.mp E5
  obtain ⟨_, kv6, _, _, cd6, _, _, _, _, l6, q6, kk6, oo6⟩ := HK.fn_ok (c.fn 6 rfl) S
  obtain ⟨S, E5⟩ := Bool.and_eq_true_iff.mp E5
  have k6 : PySem.W.keepIn K (.ref 337) = true := S
  obtain ⟨S, E5⟩ := Bool.and_eq_true_iff.mp E5
  have d7 : PySem.W.nsIn K mainGlobals "_is_row" = some (some (.ref 349)) := He.eqO_ok S
  obtain ⟨S, E5⟩ := Bool.and_eq_true_iff.mp E5
  obtain ⟨_, kv7, _, _, cd7, _, _, _, _, l7, q7, kk7, oo7⟩ := HK.fn_ok (c.fn 7 rfl) S
  obtain ⟨S, E5⟩ := Bool.and_eq_true_iff.mp E5
  have k7 : PySem.W.keepIn K (.ref 349) = true := S
  obtain ⟨S, E5⟩ := Bool.and_eq_true_iff.mp E5
  have d8 : PySem.W.nsIn K mainGlobals "is_letters" = some (some (.ref 356)) := He.eqO_ok S
  obtain ⟨S, E5⟩ := Bool.and_eq_true_iff.mp E5
  obtain ⟨_, kv8, _, _, cd8, _, _, _, _, l8, q8, kk8, oo8⟩ := HK.fn_ok (c.fn 8 rfl) S
  obtain ⟨S, E5⟩ := Bool.and_eq_true_iff.mp E5
  have k8 : PySem.W.keepIn K (.ref 356) = true := S
  obtain ⟨E6, Y0⟩ := Bool.and_eq_true_iff.mp Y0
  have E6 : (He.eqO (PySem.W.nsIn K mainGlobals "is_word") (some (some (.ref 363))) && (HK.fnB K 363 "is_word" none none none && ((PySem.W.keepIn K (.ref 363)) && (He.eqO (PySem.W.nsIn K mainGlobals "is_over") (some (some (.ref 368))) && (HK.fnB K 368 "is_over" none none none && ((PySem.W.keepIn K (.ref 368)) && (He.eqO (PySem.W.nsIn K mainGlobals "need_letters") (some (some (.ref 375))) && (HK.fnB K 375 "need_letters" none none none && ((PySem.W.keepIn K (.ref 375)) && (He.eqO (PySem.W.nsIn K mainGlobals "need_word") (some (some (.ref 382))) && (HK.fnB K 382 "need_word" none none none && ((PySem.W.keepIn K (.ref 382)) && (He.eqO (PySem.W.nsIn K mainGlobals "need_over") (some (some (.ref 389))) && (HK.fnB K 389 "need_over" none none none && ((PySem.W.keepIn K (.ref 389)) && (He.eqO (PySem.W.nsIn K mainGlobals "need_machines") (some (some (.ref 569))) && (HK.fnB K 569 "need_machines" none none none && ((PySem.W.keepIn K (.ref 569)) && (He.eqO (PySem.W.nsIn K mainGlobals "need_same_letters") (some (some (.ref 576))) && (HK.fnB K 576 "need_same_letters" none none none && ((PySem.W.keepIn K (.ref 576)) && (He.eqO (PySem.W.nsIn K mainGlobals "need_box") (some (some (.ref 754))) && (HK.fnB K 754 "need_box" none none none && ((PySem.W.keepIn K (.ref 754)) && (He.eqO (PySem.W.nsIn K mainGlobals "_grown") (some (some (.ref 761))) && (HK.fnB K 761 "_grown" none none none && ((PySem.W.keepIn K (.ref 761)) && (He.eqO (PySem.W.nsIn K mainGlobals "_counting") (some (some (.ref 771))) && (HK.fnB K 771 "_counting" none none (some 770) && ((PySem.W.keepIn K (.ref 771)) && true)))))))))))))))))))))))))))))) = true := E6
  obtain ⟨S, E6⟩ := Bool.and_eq_true_iff.mp E6
  have d9 : PySem.W.nsIn K mainGlobals "is_word" = some (some (.ref 363)) := He.eqO_ok S
  obtain ⟨S, E6⟩ := Bool.and_eq_true_iff.mp E6
  obtain ⟨_, kv9, _, _, cd9, _, _, _, _, l9, q9, kk9, oo9⟩ := HK.fn_ok (c.fn 9 rfl) S
  obtain ⟨S, E6⟩ := Bool.and_eq_true_iff.mp E6
  have k9 : PySem.W.keepIn K (.ref 363) = true := S
  obtain ⟨S, E6⟩ := Bool.and_eq_true_iff.mp E6
  have d10 : PySem.W.nsIn K mainGlobals "is_over" = some (some (.ref 368)) := He.eqO_ok S
  obtain ⟨S, E6⟩ := Bool.and_eq_true_iff.mp E6
  obtain ⟨_, kv10, _, _, cd10, _, _, _, _, l10, q10, kk10, oo10⟩ := HK.fn_ok (c.fn 10 rfl) S
  obtain ⟨S, E6⟩ := Bool.and_eq_true_iff.mp E6
  have k10 : PySem.W.keepIn K (.ref 368) = true := S
  obtain ⟨S, E6⟩ := Bool.and_eq_true_iff.mp E6
  have d11 : PySem.W.nsIn K mainGlobals "need_letters" = some (some (.ref 375)) := He.eqO_ok S
  obtain ⟨S, E6⟩ := Bool.and_eq_true_iff.mp E6
  obtain ⟨_, kv11, _, _, cd11, _, _, _, _, l11, q11, kk11, oo11⟩ := HK.fn_ok (c.fn 11 rfl) S
  obtain ⟨S, E6⟩ := Bool.and_eq_true_iff.mp E6
  have k11 : PySem.W.keepIn K (.ref 375) = true := S
  obtain ⟨S, E6⟩ := Bool.and_eq_true_iff.mp E6
  have d12 : PySem.W.nsIn K mainGlobals "need_word" = some (some (.ref 382)) := He.eqO_ok S
  obtain ⟨S, E6⟩ := Bool.and_eq_true_iff.mp E6
  obtain ⟨_, kv12, _, _, cd12, _, _, _, _, l12, q12, kk12, oo12⟩ := HK.fn_ok (c.fn 12 rfl) S
  obtain ⟨S, E6⟩ := Bool.and_eq_true_iff.mp E6
  have k12 : PySem.W.keepIn K (.ref 382) = true := S
  obtain ⟨S, E6⟩ := Bool.and_eq_true_iff.mp E6
  have d13 : PySem.W.nsIn K mainGlobals "need_over" = some (some (.ref 389)) := He.eqO_ok S
  obtain ⟨S, E6⟩ := Bool.and_eq_true_iff.mp E6
  obtain ⟨_, kv13, _, _, cd13, _, _, _, _, l13, q13, kk13, oo13⟩ := HK.fn_ok (c.fn 13 rfl) S
  obtain ⟨S, E6⟩ := Bool.and_eq_true_iff.mp E6
  have k13 : PySem.W.keepIn K (.ref 389) = true := S
  obtain ⟨S, E6⟩ := Bool.and_eq_true_iff.mp E6
  have d14 : PySem.W.nsIn K mainGlobals "need_machines" = some (some (.ref 569)) := He.eqO_ok S
  obtain ⟨S, E6⟩ := Bool.and_eq_true_iff.mp E6
  obtain ⟨_, kv14, _, _, cd14, _, _, _, _, l14, q14, kk14, oo14⟩ := HK.fn_ok (c.fn 14 rfl) S
  obtain ⟨S, E6⟩ := Bool.and_eq_true_iff.mp E6
  have k14 : PySem.W.keepIn K (.ref 569) = true := S
  obtain ⟨S, E6⟩ := Bool.and_eq_true_iff.mp E6
  have d15 : PySem.W.nsIn K mainGlobals "need_same_letters" = some (some (.ref 576)) := He.eqO_ok S
  obtain ⟨S, E6⟩ := Bool.and_eq_true_iff.mp E6
  obtain ⟨_, kv15, _, _, cd15, _, _, _, _, l15, q15, kk15, oo15⟩ := HK.fn_ok (c.fn 15 rfl) S
  obtain ⟨S, E6⟩ := Bool.and_eq_true_iff.mp E6
  have k15 : PySem.W.keepIn K (.ref 576) = true := S
  obtain ⟨S, E6⟩ := Bool.and_eq_true_iff.mp E6
  have d16 : PySem.W.nsIn K mainGlobals "need_box" = some (some (.ref 754)) := He.eqO_ok S
  obtain ⟨S, E6⟩ := Bool.and_eq_true_iff.mp E6
  obtain ⟨_, kv16, _, _, cd16, _, _, _, _, l16, q16, kk16, oo16⟩ := HK.fn_ok (c.fn 16 rfl) S
  obtain ⟨S, E6⟩ := Bool.and_eq_true_iff.mp E6
  have k16 : PySem.W.keepIn K (.ref 754) = true := S
  obtain ⟨S, E6⟩ := Bool.and_eq_true_iff.mp E6
  have d17 : PySem.W.nsIn K mainGlobals "_grown" = some (some (.ref 761)) := He.eqO_ok S
  obtain ⟨S, E6⟩ := Bool.and_eq_true_iff.mp E6
  obtain ⟨_, kv17, _, _, cd17, _, _, _, _, l17, q17, kk17, oo17⟩ := HK.fn_ok (c.fn 17 rfl) S
  obtain ⟨S, E6⟩ := Bool.and_eq_true_iff.mp E6
  have k17 : PySem.W.keepIn K (.ref 761) = true := S
  obtain ⟨S, E6⟩ := Bool.and_eq_true_iff.mp E6
  have d18 : PySem.W.nsIn K mainGlobals "_counting" = some (some (.ref 771)) := He.eqO_ok S
  obtain ⟨S, E6⟩ := Bool.and_eq_true_iff.mp E6
  obtain ⟨_, kv18, _, _, cd18, _, _, _, _, l18, q18, kk18, oo18⟩ := HK.fn_ok (c.fn 18 rfl) S
  have eo18 := oo18 _ rfl
  subst eo18
  obtain ⟨S, E6⟩ := Bool.and_eq_true_iff.mp E6
  have k18 : PySem.W.keepIn K (.ref 771) = true := S
  obtain ⟨E7, Y0⟩ := Bool.and_eq_true_iff.mp Y0
  have E7 : (He.eqO (PySem.W.nsIn K mainGlobals "_one_more") (some (some (.ref 778))) && (HK.fnB K 778 "_one_more" none none none && ((PySem.W.keepIn K (.ref 778)) && (He.eqO (PySem.W.nsIn K mainGlobals "places") (some (some (.ref 785))) && (HK.fnB K 785 "places" none none none && ((PySem.W.keepIn K (.ref 785)) && (He.eqO (PySem.W.nsIn K mainGlobals "word_to") (some (some (.ref 792))) && (HK.fnB K 792 "word_to" none none none && ((PySem.W.keepIn K (.ref 792)) && (He.eqO (PySem.W.nsIn K mainGlobals "tells_apart") (some (some (.ref 799))) && (HK.fnB K 799 "tells_apart" none none none && ((PySem.W.keepIn K (.ref 799)) && (He.eqO (PySem.W.nsIn K mainGlobals "alike_pair") (some (some (.ref 806))) && (HK.fnB K 806 "alike_pair" none none none && ((PySem.W.keepIn K (.ref 806)) && (He.eqO (PySem.W.nsIn K mainGlobals "is_alike_pair") (some (some (.ref 813))) && (HK.fnB K 813 "is_alike_pair" none none none && ((PySem.W.keepIn K (.ref 813)) && (He.eqO (PySem.W.nsIn K mainGlobals "is_seen") (some (some (.ref 820))) && (HK.fnB K 820 "is_seen" none none none && ((PySem.W.keepIn K (.ref 820)) && (He.eqO (PySem.W.nsIn K mainGlobals "apart_paper") (some (some (.ref 827))) && (HK.fnB K 827 "apart_paper" none none none && ((PySem.W.keepIn K (.ref 827)) && (He.eqO (PySem.W.nsIn K mainGlobals "is_apart_paper") (some (some (.ref 832))) && (HK.fnB K 832 "is_apart_paper" none none none && ((PySem.W.keepIn K (.ref 832)) && (He.eqO (PySem.W.nsIn K mainGlobals "guesses_of") (some (some (.ref 837))) && (HK.fnB K 837 "guesses_of" none none none && ((PySem.W.keepIn K (.ref 837)) && true)))))))))))))))))))))))))))))) = true := E7
  obtain ⟨S, E7⟩ := Bool.and_eq_true_iff.mp E7
  have d19 : PySem.W.nsIn K mainGlobals "_one_more" = some (some (.ref 778)) := He.eqO_ok S
  obtain ⟨S, E7⟩ := Bool.and_eq_true_iff.mp E7
  obtain ⟨_, kv19, _, _, cd19, _, _, _, _, l19, q19, kk19, oo19⟩ := HK.fn_ok (c.fn 19 rfl) S
  obtain ⟨S, E7⟩ := Bool.and_eq_true_iff.mp E7
  have k19 : PySem.W.keepIn K (.ref 778) = true := S
  obtain ⟨S, E7⟩ := Bool.and_eq_true_iff.mp E7
  have d20 : PySem.W.nsIn K mainGlobals "places" = some (some (.ref 785)) := He.eqO_ok S
  obtain ⟨S, E7⟩ := Bool.and_eq_true_iff.mp E7
  obtain ⟨_, kv20, _, _, cd20, _, _, _, _, l20, q20, kk20, oo20⟩ := HK.fn_ok (c.fn 20 rfl) S
  obtain ⟨S, E7⟩ := Bool.and_eq_true_iff.mp E7
  have k20 : PySem.W.keepIn K (.ref 785) = true := S
  obtain ⟨S, E7⟩ := Bool.and_eq_true_iff.mp E7
  have d21 : PySem.W.nsIn K mainGlobals "word_to" = some (some (.ref 792)) := He.eqO_ok S
  obtain ⟨S, E7⟩ := Bool.and_eq_true_iff.mp E7
  obtain ⟨_, kv21, _, _, cd21, _, _, _, _, l21, q21, kk21, oo21⟩ := HK.fn_ok (c.fn 21 rfl) S
  obtain ⟨S, E7⟩ := Bool.and_eq_true_iff.mp E7
  have k21 : PySem.W.keepIn K (.ref 792) = true := S
  obtain ⟨S, E7⟩ := Bool.and_eq_true_iff.mp E7
  have d22 : PySem.W.nsIn K mainGlobals "tells_apart" = some (some (.ref 799)) := He.eqO_ok S
  obtain ⟨S, E7⟩ := Bool.and_eq_true_iff.mp E7
  obtain ⟨_, kv22, _, _, cd22, _, _, _, _, l22, q22, kk22, oo22⟩ := HK.fn_ok (c.fn 22 rfl) S
  obtain ⟨S, E7⟩ := Bool.and_eq_true_iff.mp E7
  have k22 : PySem.W.keepIn K (.ref 799) = true := S
  obtain ⟨S, E7⟩ := Bool.and_eq_true_iff.mp E7
  have d23 : PySem.W.nsIn K mainGlobals "alike_pair" = some (some (.ref 806)) := He.eqO_ok S
  obtain ⟨S, E7⟩ := Bool.and_eq_true_iff.mp E7
  obtain ⟨_, kv23, _, _, cd23, _, _, _, _, l23, q23, kk23, oo23⟩ := HK.fn_ok (c.fn 23 rfl) S
  obtain ⟨S, E7⟩ := Bool.and_eq_true_iff.mp E7
  have k23 : PySem.W.keepIn K (.ref 806) = true := S
  obtain ⟨S, E7⟩ := Bool.and_eq_true_iff.mp E7
  have d24 : PySem.W.nsIn K mainGlobals "is_alike_pair" = some (some (.ref 813)) := He.eqO_ok S
  obtain ⟨S, E7⟩ := Bool.and_eq_true_iff.mp E7
  obtain ⟨_, kv24, _, _, cd24, _, _, _, _, l24, q24, kk24, oo24⟩ := HK.fn_ok (c.fn 24 rfl) S
  obtain ⟨S, E7⟩ := Bool.and_eq_true_iff.mp E7
  have k24 : PySem.W.keepIn K (.ref 813) = true := S
  obtain ⟨S, E7⟩ := Bool.and_eq_true_iff.mp E7
  have d25 : PySem.W.nsIn K mainGlobals "is_seen" = some (some (.ref 820)) := He.eqO_ok S
  obtain ⟨S, E7⟩ := Bool.and_eq_true_iff.mp E7
  obtain ⟨_, kv25, _, _, cd25, _, _, _, _, l25, q25, kk25, oo25⟩ := HK.fn_ok (c.fn 25 rfl) S
  obtain ⟨S, E7⟩ := Bool.and_eq_true_iff.mp E7
  have k25 : PySem.W.keepIn K (.ref 820) = true := S
  obtain ⟨S, E7⟩ := Bool.and_eq_true_iff.mp E7
  have d26 : PySem.W.nsIn K mainGlobals "apart_paper" = some (some (.ref 827)) := He.eqO_ok S
  obtain ⟨S, E7⟩ := Bool.and_eq_true_iff.mp E7
  obtain ⟨_, kv26, _, _, cd26, _, _, _, _, l26, q26, kk26, oo26⟩ := HK.fn_ok (c.fn 26 rfl) S
  obtain ⟨S, E7⟩ := Bool.and_eq_true_iff.mp E7
  have k26 : PySem.W.keepIn K (.ref 827) = true := S
  obtain ⟨S, E7⟩ := Bool.and_eq_true_iff.mp E7
  have d27 : PySem.W.nsIn K mainGlobals "is_apart_paper" = some (some (.ref 832)) := He.eqO_ok S
  obtain ⟨S, E7⟩ := Bool.and_eq_true_iff.mp E7
  obtain ⟨_, kv27, _, _, cd27, _, _, _, _, l27, q27, kk27, oo27⟩ := HK.fn_ok (c.fn 27 rfl) S
  obtain ⟨S, E7⟩ := Bool.and_eq_true_iff.mp E7
  have k27 : PySem.W.keepIn K (.ref 832) = true := S
  obtain ⟨S, E7⟩ := Bool.and_eq_true_iff.mp E7
  have d28 : PySem.W.nsIn K mainGlobals "guesses_of" = some (some (.ref 837)) := He.eqO_ok S
  obtain ⟨S, E7⟩ := Bool.and_eq_true_iff.mp E7
  obtain ⟨_, kv28, _, _, cd28, _, _, _, _, l28, q28, kk28, oo28⟩ := HK.fn_ok (c.fn 28 rfl) S
  obtain ⟨S, E7⟩ := Bool.and_eq_true_iff.mp E7
  have k28 : PySem.W.keepIn K (.ref 837) = true := S
  obtain ⟨E8, Y1⟩ := Bool.and_eq_true_iff.mp Y1
  have E8 : (He.eqO (PySem.W.nsIn K mainGlobals "box_groups") (some (some (.ref 842))) && (HK.fnB K 842 "box_groups" none none none && ((PySem.W.keepIn K (.ref 842)) && (He.eqO (PySem.W.nsIn K mainGlobals "_need") (some (some (.ref 849))) && (HK.fnB K 849 "_need" none none none && ((PySem.W.keepIn K (.ref 849)) && (He.eqO (PySem.W.nsIn K mainGlobals "_need_letters") (some (some (.ref 856))) && (HK.fnB K 856 "_need_letters" none none none && ((PySem.W.keepIn K (.ref 856)) && (He.eqO (PySem.W.nsIn K mainGlobals "_need_some") (some (some (.ref 863))) && (HK.fnB K 863 "_need_some" none none none && ((PySem.W.keepIn K (.ref 863)) && (He.eqO (PySem.W.nsIn K mainGlobals "_law_dice") (some (some (.ref 889))) && (HK.fnB K 889 "_law_dice" none none none && ((PySem.W.keepIn K (.ref 889)) && (He.eqO (PySem.W.nsIn K mainGlobals "_law_roll") (some (some (.ref 896))) && (HK.fnB K 896 "_law_roll" none none none && ((PySem.W.keepIn K (.ref 896)) && (He.eqO (PySem.W.nsIn K mainGlobals "_law_one_of") (some (some (.ref 903))) && (HK.fnB K 903 "_law_one_of" none none none && ((PySem.W.keepIn K (.ref 903)) && (He.eqO (PySem.W.nsIn K mainGlobals "_law_action") (some (some (.ref 908))) && (HK.fnB K 908 "_law_action" none none none && ((PySem.W.keepIn K (.ref 908)) && (He.eqO (PySem.W.nsIn K mainGlobals "_law_table") (some (some (.ref 913))) && (HK.fnB K 913 "_law_table" none none none && ((PySem.W.keepIn K (.ref 913)) && (He.eqO (PySem.W.nsIn K mainGlobals "_law_machine") (some (some (.ref 918))) && (HK.fnB K 918 "_law_machine" none none none && ((PySem.W.keepIn K (.ref 918)) && true)))))))))))))))))))))))))))))) = true := E8
  obtain ⟨S, E8⟩ := Bool.and_eq_true_iff.mp E8
  have d29 : PySem.W.nsIn K mainGlobals "box_groups" = some (some (.ref 842)) := He.eqO_ok S
  obtain ⟨S, E8⟩ := Bool.and_eq_true_iff.mp E8
  obtain ⟨_, kv29, _, _, cd29, _, _, _, _, l29, q29, kk29, oo29⟩ := HK.fn_ok (c.fn 29 rfl) S
  obtain ⟨S, E8⟩ := Bool.and_eq_true_iff.mp E8
  have k29 : PySem.W.keepIn K (.ref 842) = true := S
  obtain ⟨S, E8⟩ := Bool.and_eq_true_iff.mp E8
  have d30 : PySem.W.nsIn K mainGlobals "_need" = some (some (.ref 849)) := He.eqO_ok S
  obtain ⟨S, E8⟩ := Bool.and_eq_true_iff.mp E8
  obtain ⟨_, kv30, _, _, cd30, _, _, _, _, l30, q30, kk30, oo30⟩ := HK.fn_ok (c.fn 30 rfl) S
  obtain ⟨S, E8⟩ := Bool.and_eq_true_iff.mp E8
  have k30 : PySem.W.keepIn K (.ref 849) = true := S
  obtain ⟨S, E8⟩ := Bool.and_eq_true_iff.mp E8
  have d31 : PySem.W.nsIn K mainGlobals "_need_letters" = some (some (.ref 856)) := He.eqO_ok S
  obtain ⟨S, E8⟩ := Bool.and_eq_true_iff.mp E8
  obtain ⟨_, kv31, _, _, cd31, _, _, _, _, l31, q31, kk31, oo31⟩ := HK.fn_ok (c.fn 31 rfl) S
  obtain ⟨S, E8⟩ := Bool.and_eq_true_iff.mp E8
  have k31 : PySem.W.keepIn K (.ref 856) = true := S
  obtain ⟨S, E8⟩ := Bool.and_eq_true_iff.mp E8
  have d32 : PySem.W.nsIn K mainGlobals "_need_some" = some (some (.ref 863)) := He.eqO_ok S
  obtain ⟨S, E8⟩ := Bool.and_eq_true_iff.mp E8
  obtain ⟨_, kv32, _, _, cd32, _, _, _, _, l32, q32, kk32, oo32⟩ := HK.fn_ok (c.fn 32 rfl) S
  obtain ⟨S, E8⟩ := Bool.and_eq_true_iff.mp E8
  have k32 : PySem.W.keepIn K (.ref 863) = true := S
  obtain ⟨S, E8⟩ := Bool.and_eq_true_iff.mp E8
  have d33 : PySem.W.nsIn K mainGlobals "_law_dice" = some (some (.ref 889)) := He.eqO_ok S
  obtain ⟨S, E8⟩ := Bool.and_eq_true_iff.mp E8
  obtain ⟨_, kv33, _, _, cd33, _, _, _, _, l33, q33, kk33, oo33⟩ := HK.fn_ok (c.fn 33 rfl) S
  obtain ⟨S, E8⟩ := Bool.and_eq_true_iff.mp E8
  have k33 : PySem.W.keepIn K (.ref 889) = true := S
  obtain ⟨S, E8⟩ := Bool.and_eq_true_iff.mp E8
  have d34 : PySem.W.nsIn K mainGlobals "_law_roll" = some (some (.ref 896)) := He.eqO_ok S
  obtain ⟨S, E8⟩ := Bool.and_eq_true_iff.mp E8
  obtain ⟨_, kv34, _, _, cd34, _, _, _, _, l34, q34, kk34, oo34⟩ := HK.fn_ok (c.fn 34 rfl) S
  obtain ⟨S, E8⟩ := Bool.and_eq_true_iff.mp E8
  have k34 : PySem.W.keepIn K (.ref 896) = true := S
  obtain ⟨S, E8⟩ := Bool.and_eq_true_iff.mp E8
  have d35 : PySem.W.nsIn K mainGlobals "_law_one_of" = some (some (.ref 903)) := He.eqO_ok S
  obtain ⟨S, E8⟩ := Bool.and_eq_true_iff.mp E8
  obtain ⟨_, kv35, _, _, cd35, _, _, _, _, l35, q35, kk35, oo35⟩ := HK.fn_ok (c.fn 35 rfl) S
  obtain ⟨S, E8⟩ := Bool.and_eq_true_iff.mp E8
  have k35 : PySem.W.keepIn K (.ref 903) = true := S
  obtain ⟨S, E8⟩ := Bool.and_eq_true_iff.mp E8
  have d36 : PySem.W.nsIn K mainGlobals "_law_action" = some (some (.ref 908)) := He.eqO_ok S
  obtain ⟨S, E8⟩ := Bool.and_eq_true_iff.mp E8
  obtain ⟨_, kv36, _, _, cd36, _, _, _, _, l36, q36, kk36, oo36⟩ := HK.fn_ok (c.fn 36 rfl) S
  obtain ⟨S, E8⟩ := Bool.and_eq_true_iff.mp E8
  have k36 : PySem.W.keepIn K (.ref 908) = true := S
  obtain ⟨S, E8⟩ := Bool.and_eq_true_iff.mp E8
  have d37 : PySem.W.nsIn K mainGlobals "_law_table" = some (some (.ref 913)) := He.eqO_ok S
  obtain ⟨S, E8⟩ := Bool.and_eq_true_iff.mp E8
  obtain ⟨_, kv37, _, _, cd37, _, _, _, _, l37, q37, kk37, oo37⟩ := HK.fn_ok (c.fn 37 rfl) S
  obtain ⟨S, E8⟩ := Bool.and_eq_true_iff.mp E8
  have k37 : PySem.W.keepIn K (.ref 913) = true := S
  obtain ⟨S, E8⟩ := Bool.and_eq_true_iff.mp E8
  have d38 : PySem.W.nsIn K mainGlobals "_law_machine" = some (some (.ref 918)) := He.eqO_ok S
  obtain ⟨S, E8⟩ := Bool.and_eq_true_iff.mp E8
  obtain ⟨_, kv38, _, _, cd38, _, _, _, _, l38, q38, kk38, oo38⟩ := HK.fn_ok (c.fn 38 rfl) S
  obtain ⟨S, E8⟩ := Bool.and_eq_true_iff.mp E8
  have k38 : PySem.W.keepIn K (.ref 918) = true := S
  obtain ⟨E9, Y1⟩ := Bool.and_eq_true_iff.mp Y1
  have E9 : (He.eqO (PySem.W.nsIn K mainGlobals "_law_made_machine") (some (some (.ref 925))) && (HK.fnB K 925 "_law_made_machine" none none none && ((PySem.W.keepIn K (.ref 925)) && (He.eqO (PySem.W.nsIn K mainGlobals "_law_box") (some (some (.ref 930))) && (HK.fnB K 930 "_law_box" none none none && ((PySem.W.keepIn K (.ref 930)) && (He.eqO (PySem.W.nsIn K mainGlobals "_law_made_box") (some (some (.ref 937))) && (HK.fnB K 937 "_law_made_box" none none none && ((PySem.W.keepIn K (.ref 937)) && (He.eqO (PySem.W.nsIn K mainGlobals "_law_met") (some (some (.ref 944))) && (HK.fnB K 944 "_law_met" none none none && ((PySem.W.keepIn K (.ref 944)) && (He.eqO (PySem.W.nsIn K mainGlobals "_law_made_calls") (some (some (.ref 951))) && (HK.fnB K 951 "_law_made_calls" none none (some 950) && ((PySem.W.keepIn K (.ref 951)) && (He.eqO (PySem.W.nsIn K mainGlobals "_law_box_calls") (some (some (.ref 958))) && (HK.fnB K 958 "_law_box_calls" none none (some 957) && ((PySem.W.keepIn K (.ref 958)) && (He.eqO (PySem.W.nsIn K mainGlobals "_law_sight_calls") (some (some (.ref 965))) && (HK.fnB K 965 "_law_sight_calls" none none (some 964) && ((PySem.W.keepIn K (.ref 965)) && (He.eqO (PySem.W.nsIn K mainGlobals "_law_right") (some (some (.ref 970))) && (HK.fnB K 970 "_law_right" none none (some 969) && ((PySem.W.keepIn K (.ref 970)) && (He.eqO (PySem.W.nsIn K mainGlobals "law") (some (some (.ref 977))) && (HK.fnB K 977 "law" none none (some 976) && ((PySem.W.keepIn K (.ref 977)) && (HK.fnB K 215 "Made.__init__" none none none && ((PySem.W.keepIn K (.ref 215)) && (HK.fnB K 595 "Box.__init__" none none none && true)))))))))))))))))))))))))))))) = true := E9
  obtain ⟨S, E9⟩ := Bool.and_eq_true_iff.mp E9
  have d39 : PySem.W.nsIn K mainGlobals "_law_made_machine" = some (some (.ref 925)) := He.eqO_ok S
  obtain ⟨S, E9⟩ := Bool.and_eq_true_iff.mp E9
  obtain ⟨_, kv39, _, _, cd39, _, _, _, _, l39, q39, kk39, oo39⟩ := HK.fn_ok (c.fn 39 rfl) S
  obtain ⟨S, E9⟩ := Bool.and_eq_true_iff.mp E9
  have k39 : PySem.W.keepIn K (.ref 925) = true := S
  obtain ⟨S, E9⟩ := Bool.and_eq_true_iff.mp E9
  have d40 : PySem.W.nsIn K mainGlobals "_law_box" = some (some (.ref 930)) := He.eqO_ok S
  obtain ⟨S, E9⟩ := Bool.and_eq_true_iff.mp E9
  obtain ⟨_, kv40, _, _, cd40, _, _, _, _, l40, q40, kk40, oo40⟩ := HK.fn_ok (c.fn 40 rfl) S
  obtain ⟨S, E9⟩ := Bool.and_eq_true_iff.mp E9
  have k40 : PySem.W.keepIn K (.ref 930) = true := S
  obtain ⟨S, E9⟩ := Bool.and_eq_true_iff.mp E9
  have d41 : PySem.W.nsIn K mainGlobals "_law_made_box" = some (some (.ref 937)) := He.eqO_ok S
  obtain ⟨S, E9⟩ := Bool.and_eq_true_iff.mp E9
  obtain ⟨_, kv41, _, _, cd41, _, _, _, _, l41, q41, kk41, oo41⟩ := HK.fn_ok (c.fn 41 rfl) S
  obtain ⟨S, E9⟩ := Bool.and_eq_true_iff.mp E9
  have k41 : PySem.W.keepIn K (.ref 937) = true := S
  obtain ⟨S, E9⟩ := Bool.and_eq_true_iff.mp E9
  have d42 : PySem.W.nsIn K mainGlobals "_law_met" = some (some (.ref 944)) := He.eqO_ok S
  obtain ⟨S, E9⟩ := Bool.and_eq_true_iff.mp E9
  obtain ⟨_, kv42, _, _, cd42, _, _, _, _, l42, q42, kk42, oo42⟩ := HK.fn_ok (c.fn 42 rfl) S
  obtain ⟨S, E9⟩ := Bool.and_eq_true_iff.mp E9
  have k42 : PySem.W.keepIn K (.ref 944) = true := S
  obtain ⟨S, E9⟩ := Bool.and_eq_true_iff.mp E9
  have d43 : PySem.W.nsIn K mainGlobals "_law_made_calls" = some (some (.ref 951)) := He.eqO_ok S
  obtain ⟨S, E9⟩ := Bool.and_eq_true_iff.mp E9
  obtain ⟨_, kv43, _, _, cd43, _, _, _, _, l43, q43, kk43, oo43⟩ := HK.fn_ok (c.fn 43 rfl) S
  have eo43 := oo43 _ rfl
  subst eo43
  obtain ⟨S, E9⟩ := Bool.and_eq_true_iff.mp E9
  have k43 : PySem.W.keepIn K (.ref 951) = true := S
  obtain ⟨S, E9⟩ := Bool.and_eq_true_iff.mp E9
  have d44 : PySem.W.nsIn K mainGlobals "_law_box_calls" = some (some (.ref 958)) := He.eqO_ok S
  obtain ⟨S, E9⟩ := Bool.and_eq_true_iff.mp E9
  obtain ⟨_, kv44, _, _, cd44, _, _, _, _, l44, q44, kk44, oo44⟩ := HK.fn_ok (c.fn 44 rfl) S
  have eo44 := oo44 _ rfl
  subst eo44
  obtain ⟨S, E9⟩ := Bool.and_eq_true_iff.mp E9
  have k44 : PySem.W.keepIn K (.ref 958) = true := S
  obtain ⟨S, E9⟩ := Bool.and_eq_true_iff.mp E9
  have d45 : PySem.W.nsIn K mainGlobals "_law_sight_calls" = some (some (.ref 965)) := He.eqO_ok S
  obtain ⟨S, E9⟩ := Bool.and_eq_true_iff.mp E9
  obtain ⟨_, kv45, _, _, cd45, _, _, _, _, l45, q45, kk45, oo45⟩ := HK.fn_ok (c.fn 45 rfl) S
  have eo45 := oo45 _ rfl
  subst eo45
  obtain ⟨S, E9⟩ := Bool.and_eq_true_iff.mp E9
  have k45 : PySem.W.keepIn K (.ref 965) = true := S
  obtain ⟨S, E9⟩ := Bool.and_eq_true_iff.mp E9
  have d46 : PySem.W.nsIn K mainGlobals "_law_right" = some (some (.ref 970)) := He.eqO_ok S
  obtain ⟨S, E9⟩ := Bool.and_eq_true_iff.mp E9
  obtain ⟨_, kv46, _, _, cd46, _, _, _, _, l46, q46, kk46, oo46⟩ := HK.fn_ok (c.fn 46 rfl) S
  have eo46 := oo46 _ rfl
  subst eo46
  obtain ⟨S, E9⟩ := Bool.and_eq_true_iff.mp E9
  have k46 : PySem.W.keepIn K (.ref 970) = true := S
  obtain ⟨S, E9⟩ := Bool.and_eq_true_iff.mp E9
  have d47 : PySem.W.nsIn K mainGlobals "law" = some (some (.ref 977)) := He.eqO_ok S
  obtain ⟨S, E9⟩ := Bool.and_eq_true_iff.mp E9
  obtain ⟨_, kv47, _, _, cd47, _, _, _, _, l47, q47, kk47, oo47⟩ := HK.fn_ok (c.fn 47 rfl) S
  have eo47 := oo47 _ rfl
  subst eo47
  obtain ⟨S, E9⟩ := Bool.and_eq_true_iff.mp E9
  have k47 : PySem.W.keepIn K (.ref 977) = true := S
  obtain ⟨S, E9⟩ := Bool.and_eq_true_iff.mp E9
  obtain ⟨_, kv48, _, _, cd48, _, _, _, _, l48, q48, kk48, oo48⟩ := HK.fn_ok (c.fn 48 rfl) S
  obtain ⟨S, E9⟩ := Bool.and_eq_true_iff.mp E9
  have k48 : PySem.W.keepIn K (.ref 215) = true := S
  obtain ⟨S, E9⟩ := Bool.and_eq_true_iff.mp E9
  obtain ⟨_, kv49, _, _, cd49, _, _, _, _, l49, q49, kk49, oo49⟩ := HK.fn_ok (c.fn 49 rfl) S
  obtain ⟨E10, Y1⟩ := Bool.and_eq_true_iff.mp Y1
  have E10 : ((PySem.W.keepIn K (.ref 595)) && (HK.fnB K 424 "Machine.__init__" (some 417) none none && ((PySem.W.keepIn K (.ref 424)) && (HK.fnB K 155 "TooMany.__init__" none none none && ((PySem.W.keepIn K (.ref 155)) && (HK.fnB K 135 "InvalidNumber.__init__" none none none && ((PySem.W.keepIn K (.ref 135)) && (HK.fnB K 602 "Box.window" none none none && ((PySem.W.keepIn K (.ref 602)) && (HK.fnB K 612 "Box.heads" none none none && ((PySem.W.keepIn K (.ref 612)) && (HK.fnB K 622 "Box.pieces" none none none && ((PySem.W.keepIn K (.ref 622)) && (HK.fnB K 632 "Box.caps" none none none && ((PySem.W.keepIn K (.ref 632)) && (HK.fnB K 642 "Box.rests" none none none && ((PySem.W.keepIn K (.ref 642)) && (HK.fnB K 652 "Box.clerk" none none none && ((PySem.W.keepIn K (.ref 652)) && (HK.fnB K 662 "Box.letters" none none none && ((PySem.W.keepIn K (.ref 662)) && (HK.fnB K 431 "Machine.letters" none none none && ((PySem.W.keepIn K (.ref 431)) && (HK.fnB K 678 "Box.__call__" none none none && ((PySem.W.keepIn K (.ref 678)) && (HK.fnB K 686 "Box.place" none (some 679) none && ((PySem.W.keepIn K (.ref 686)) && (HK.fnB K 691 "Box.action" none none none && ((PySem.W.keepIn K (.ref 691)) && (HK.fnB K 698 "Box.first_word" none none none && true)))))))))))))))))))))))))))))) = true := E10
  obtain ⟨S, E10⟩ := Bool.and_eq_true_iff.mp E10
  have k49 : PySem.W.keepIn K (.ref 595) = true := S
  obtain ⟨S, E10⟩ := Bool.and_eq_true_iff.mp E10
  obtain ⟨_, kv50, _, _, cd50, _, _, _, _, l50, q50, kk50, oo50⟩ := HK.fn_ok (c.fn 50 rfl) S
  obtain ⟨S, E10⟩ := Bool.and_eq_true_iff.mp E10
  have k50 : PySem.W.keepIn K (.ref 424) = true := S
  obtain ⟨S, E10⟩ := Bool.and_eq_true_iff.mp E10
  obtain ⟨_, kv51, _, _, cd51, _, _, _, _, l51, q51, kk51, oo51⟩ := HK.fn_ok (c.fn 51 rfl) S
  obtain ⟨S, E10⟩ := Bool.and_eq_true_iff.mp E10
  have k51 : PySem.W.keepIn K (.ref 155) = true := S
  obtain ⟨S, E10⟩ := Bool.and_eq_true_iff.mp E10
  obtain ⟨_, kv52, _, _, cd52, _, _, _, _, l52, q52, kk52, oo52⟩ := HK.fn_ok (c.fn 52 rfl) S
  obtain ⟨S, E10⟩ := Bool.and_eq_true_iff.mp E10
  have k52 : PySem.W.keepIn K (.ref 135) = true := S
  obtain ⟨S, E10⟩ := Bool.and_eq_true_iff.mp E10
  obtain ⟨_, kv53, _, _, cd53, _, _, _, _, l53, q53, kk53, oo53⟩ := HK.fn_ok (c.fn 53 rfl) S
  obtain ⟨S, E10⟩ := Bool.and_eq_true_iff.mp E10
  have k53 : PySem.W.keepIn K (.ref 602) = true := S
  obtain ⟨S, E10⟩ := Bool.and_eq_true_iff.mp E10
  obtain ⟨_, kv54, _, _, cd54, _, _, _, _, l54, q54, kk54, oo54⟩ := HK.fn_ok (c.fn 54 rfl) S
  obtain ⟨S, E10⟩ := Bool.and_eq_true_iff.mp E10
  have k54 : PySem.W.keepIn K (.ref 612) = true := S
  obtain ⟨S, E10⟩ := Bool.and_eq_true_iff.mp E10
  obtain ⟨_, kv55, _, _, cd55, _, _, _, _, l55, q55, kk55, oo55⟩ := HK.fn_ok (c.fn 55 rfl) S
  obtain ⟨S, E10⟩ := Bool.and_eq_true_iff.mp E10
  have k55 : PySem.W.keepIn K (.ref 622) = true := S
  obtain ⟨S, E10⟩ := Bool.and_eq_true_iff.mp E10
  obtain ⟨_, kv56, _, _, cd56, _, _, _, _, l56, q56, kk56, oo56⟩ := HK.fn_ok (c.fn 56 rfl) S
  obtain ⟨S, E10⟩ := Bool.and_eq_true_iff.mp E10
  have k56 : PySem.W.keepIn K (.ref 632) = true := S
  obtain ⟨S, E10⟩ := Bool.and_eq_true_iff.mp E10
  obtain ⟨_, kv57, _, _, cd57, _, _, _, _, l57, q57, kk57, oo57⟩ := HK.fn_ok (c.fn 57 rfl) S
  obtain ⟨S, E10⟩ := Bool.and_eq_true_iff.mp E10
  have k57 : PySem.W.keepIn K (.ref 642) = true := S
  obtain ⟨S, E10⟩ := Bool.and_eq_true_iff.mp E10
  obtain ⟨_, kv58, _, _, cd58, _, _, _, _, l58, q58, kk58, oo58⟩ := HK.fn_ok (c.fn 58 rfl) S
  obtain ⟨S, E10⟩ := Bool.and_eq_true_iff.mp E10
  have k58 : PySem.W.keepIn K (.ref 652) = true := S
  obtain ⟨S, E10⟩ := Bool.and_eq_true_iff.mp E10
  obtain ⟨_, kv59, _, _, cd59, _, _, _, _, l59, q59, kk59, oo59⟩ := HK.fn_ok (c.fn 59 rfl) S
  obtain ⟨S, E10⟩ := Bool.and_eq_true_iff.mp E10
  have k59 : PySem.W.keepIn K (.ref 662) = true := S
  obtain ⟨S, E10⟩ := Bool.and_eq_true_iff.mp E10
  obtain ⟨_, kv60, _, _, cd60, _, _, _, _, l60, q60, kk60, oo60⟩ := HK.fn_ok (c.fn 60 rfl) S
  obtain ⟨S, E10⟩ := Bool.and_eq_true_iff.mp E10
  have k60 : PySem.W.keepIn K (.ref 431) = true := S
  obtain ⟨S, E10⟩ := Bool.and_eq_true_iff.mp E10
  obtain ⟨_, kv61, _, _, cd61, _, _, _, _, l61, q61, kk61, oo61⟩ := HK.fn_ok (c.fn 61 rfl) S
  obtain ⟨S, E10⟩ := Bool.and_eq_true_iff.mp E10
  have k61 : PySem.W.keepIn K (.ref 678) = true := S
  obtain ⟨S, E10⟩ := Bool.and_eq_true_iff.mp E10
  obtain ⟨_, kv62, _, _, cd62, _, _, _, _, l62, q62, kk62, oo62⟩ := HK.fn_ok (c.fn 62 rfl) S
  have ek62 := kk62 _ rfl
  subst ek62
  obtain ⟨S, E10⟩ := Bool.and_eq_true_iff.mp E10
  have k62 : PySem.W.keepIn K (.ref 686) = true := S
  obtain ⟨S, E10⟩ := Bool.and_eq_true_iff.mp E10
  obtain ⟨_, kv63, _, _, cd63, _, _, _, _, l63, q63, kk63, oo63⟩ := HK.fn_ok (c.fn 63 rfl) S
  obtain ⟨S, E10⟩ := Bool.and_eq_true_iff.mp E10
  have k63 : PySem.W.keepIn K (.ref 691) = true := S
  obtain ⟨S, E10⟩ := Bool.and_eq_true_iff.mp E10
  obtain ⟨_, kv64, _, _, cd64, _, _, _, _, l64, q64, kk64, oo64⟩ := HK.fn_ok (c.fn 64 rfl) S
  obtain ⟨E11, Y1⟩ := Bool.and_eq_true_iff.mp Y1
  have E11 : ((PySem.W.keepIn K (.ref 698)) && (HK.fnB K 712 "Box.machine" none none none && ((PySem.W.keepIn K (.ref 712)) && (HK.fnB K 719 "Box.__and__" none none none && ((PySem.W.keepIn K (.ref 719)) && (HK.fnB K 726 "Box.__len__" none none none && ((PySem.W.keepIn K (.ref 726)) && (HK.intB K 679 "times" 1 && (HK.oneB K 262 && (HK.oneB K 417 && ((PySem.W.codeHdIn K 976 972) && ((PySem.W.codeHdIn K 969 967) && ((PySem.W.codeHdIn K 964 960) && ((PySem.W.codeHdIn K 957 953) && ((PySem.W.codeHdIn K 950 946) && ((PySem.W.codeHdIn K 770 768) && (HK.intB K mainGlobals "MAX_MADE" 400 && (HK.intB K mainGlobals "_MAX_SIZE" 4 && (HK.intB K mainGlobals "_MAX_PIECES" 3 && (HK.intB K mainGlobals "_MAX_CAP" 9 && (HK.intB K mainGlobals "_MAX_MODULUS" 12 && (HK.intB K mainGlobals "MAX_LETTERS" 3 && (HK.intB K mainGlobals "MAX_PLACES" 6 && (HK.intB K mainGlobals "MAX_STATES" 4 && (HK.intB K mainGlobals "MAX_TIMES" 100000000000 && (HK.intB K mainGlobals "_MOST_MACHINES" 8 && (He.eqO (PySem.W.nsIn K mainGlobals "len") (some none) && (He.eqO (PySem.W.nsIn K mainGlobals "int") (some none) && (He.eqO (PySem.W.nsIn K mainGlobals "abs") (some none) && (He.eqO (PySem.W.nsIn K mainGlobals "isinstance") (some none) && true)))))))))))))))))))))))))))))) = true := E11
  obtain ⟨S, E11⟩ := Bool.and_eq_true_iff.mp E11
  have k64 : PySem.W.keepIn K (.ref 698) = true := S
  obtain ⟨S, E11⟩ := Bool.and_eq_true_iff.mp E11
  obtain ⟨_, kv65, _, _, cd65, _, _, _, _, l65, q65, kk65, oo65⟩ := HK.fn_ok (c.fn 65 rfl) S
  obtain ⟨S, E11⟩ := Bool.and_eq_true_iff.mp E11
  have k65 : PySem.W.keepIn K (.ref 712) = true := S
  obtain ⟨S, E11⟩ := Bool.and_eq_true_iff.mp E11
  obtain ⟨_, kv66, _, _, cd66, _, _, _, _, l66, q66, kk66, oo66⟩ := HK.fn_ok (c.fn 66 rfl) S
  obtain ⟨S, E11⟩ := Bool.and_eq_true_iff.mp E11
  have k66 : PySem.W.keepIn K (.ref 719) = true := S
  obtain ⟨S, E11⟩ := Bool.and_eq_true_iff.mp E11
  obtain ⟨_, kv67, _, _, cd67, _, _, _, _, l67, q67, kk67, oo67⟩ := HK.fn_ok (c.fn 67 rfl) S
  obtain ⟨S, E11⟩ := Bool.and_eq_true_iff.mp E11
  have k67 : PySem.W.keepIn K (.ref 726) = true := S
  obtain ⟨S, E11⟩ := Bool.and_eq_true_iff.mp E11
  obtain ⟨_, kw⟩ := HK.int_ns S
  obtain ⟨S, E11⟩ := Bool.and_eq_true_iff.mp E11
  obtain ⟨_, _, _, _, _, y0⟩ := HK.one_ns S
  obtain ⟨S, E11⟩ := Bool.and_eq_true_iff.mp E11
  obtain ⟨_, _, _, _, _, y50⟩ := HK.one_ns S
  obtain ⟨S, E11⟩ := Bool.and_eq_true_iff.mp E11
  have hCL : PySem.W.codeHdIn K 976 972 = true := S
  obtain ⟨S, E11⟩ := Bool.and_eq_true_iff.mp E11
  have hCR : PySem.W.codeHdIn K 969 967 = true := S
  obtain ⟨S, E11⟩ := Bool.and_eq_true_iff.mp E11
  have hCS : PySem.W.codeHdIn K 964 960 = true := S
  obtain ⟨S, E11⟩ := Bool.and_eq_true_iff.mp E11
  have hCB : PySem.W.codeHdIn K 957 953 = true := S
  obtain ⟨S, E11⟩ := Bool.and_eq_true_iff.mp E11
  have hCM : PySem.W.codeHdIn K 950 946 = true := S
  obtain ⟨S, E11⟩ := Bool.and_eq_true_iff.mp E11
  have hCN : PySem.W.codeHdIn K 770 768 = true := S
  obtain ⟨S, E11⟩ := Bool.and_eq_true_iff.mp E11
  obtain ⟨_, vMAX_MADE⟩ := HK.int_ns S
  obtain ⟨S, E11⟩ := Bool.and_eq_true_iff.mp E11
  obtain ⟨_, v_MAX_SIZE⟩ := HK.int_ns S
  obtain ⟨S, E11⟩ := Bool.and_eq_true_iff.mp E11
  obtain ⟨_, v_MAX_PIECES⟩ := HK.int_ns S
  obtain ⟨S, E11⟩ := Bool.and_eq_true_iff.mp E11
  obtain ⟨_, v_MAX_CAP⟩ := HK.int_ns S
  obtain ⟨S, E11⟩ := Bool.and_eq_true_iff.mp E11
  obtain ⟨_, v_MAX_MODULUS⟩ := HK.int_ns S
  obtain ⟨S, E11⟩ := Bool.and_eq_true_iff.mp E11
  obtain ⟨_, vMAX_LETTERS⟩ := HK.int_ns S
  obtain ⟨S, E11⟩ := Bool.and_eq_true_iff.mp E11
  obtain ⟨_, vMAX_PLACES⟩ := HK.int_ns S
  obtain ⟨S, E11⟩ := Bool.and_eq_true_iff.mp E11
  obtain ⟨_, vMAX_STATES⟩ := HK.int_ns S
  obtain ⟨S, E11⟩ := Bool.and_eq_true_iff.mp E11
  obtain ⟨_, vMAX_TIMES⟩ := HK.int_ns S
  obtain ⟨S, E11⟩ := Bool.and_eq_true_iff.mp E11
  obtain ⟨_, v_MOST_MACHINES⟩ := HK.int_ns S
  obtain ⟨S, E11⟩ := Bool.and_eq_true_iff.mp E11
  have z_len : PySem.W.nsIn K mainGlobals "len" = some none := He.eqO_ok S
  obtain ⟨S, E11⟩ := Bool.and_eq_true_iff.mp E11
  have z_int : PySem.W.nsIn K mainGlobals "int" = some none := He.eqO_ok S
  obtain ⟨S, E11⟩ := Bool.and_eq_true_iff.mp E11
  have z_abs : PySem.W.nsIn K mainGlobals "abs" = some none := He.eqO_ok S
  obtain ⟨S, E11⟩ := Bool.and_eq_true_iff.mp E11
  have z_isinstance : PySem.W.nsIn K mainGlobals "isinstance" = some none := He.eqO_ok S
  obtain ⟨E12, Y1⟩ := Bool.and_eq_true_iff.mp Y1
  have E12 : (He.eqO (PySem.W.nsIn K mainGlobals "bool") (some none) && (He.eqO (PySem.W.nsIn K mainGlobals "str") (some none) && (He.eqO (PySem.W.nsIn K mainGlobals "all") (some none) && (He.eqO (PySem.W.nsIn K mainGlobals "range") (some none) && (He.eqO (PySem.W.nsIn K mainGlobals "sorted") (some none) && (He.eqO (PySem.W.nsIn K mainGlobals "set") (some none) && (He.eqO (PySem.W.nsIn K mainGlobals "tuple") (some none) && (He.eqO (PySem.W.nsIn K mainGlobals "list") (some none) && (He.eqO (PySem.W.nsIn K mainGlobals "max") (some none) && (He.eqO (PySem.W.nsIn K mainGlobals "min") (some none) && (He.eqO (PySem.W.nsIn K mainGlobals "zip") (some none) && (He.eqO (PySem.W.nsIn K mainGlobals "repr") (some none) && true)))))))))))) = true := E12
  obtain ⟨S, E12⟩ := Bool.and_eq_true_iff.mp E12
  have z_bool : PySem.W.nsIn K mainGlobals "bool" = some none := He.eqO_ok S
  obtain ⟨S, E12⟩ := Bool.and_eq_true_iff.mp E12
  have z_str : PySem.W.nsIn K mainGlobals "str" = some none := He.eqO_ok S
  obtain ⟨S, E12⟩ := Bool.and_eq_true_iff.mp E12
  have z_all : PySem.W.nsIn K mainGlobals "all" = some none := He.eqO_ok S
  obtain ⟨S, E12⟩ := Bool.and_eq_true_iff.mp E12
  have z_range : PySem.W.nsIn K mainGlobals "range" = some none := He.eqO_ok S
  obtain ⟨S, E12⟩ := Bool.and_eq_true_iff.mp E12
  have z_sorted : PySem.W.nsIn K mainGlobals "sorted" = some none := He.eqO_ok S
  obtain ⟨S, E12⟩ := Bool.and_eq_true_iff.mp E12
  have z_set : PySem.W.nsIn K mainGlobals "set" = some none := He.eqO_ok S
  obtain ⟨S, E12⟩ := Bool.and_eq_true_iff.mp E12
  have z_tuple : PySem.W.nsIn K mainGlobals "tuple" = some none := He.eqO_ok S
  obtain ⟨S, E12⟩ := Bool.and_eq_true_iff.mp E12
  have z_list : PySem.W.nsIn K mainGlobals "list" = some none := He.eqO_ok S
  obtain ⟨S, E12⟩ := Bool.and_eq_true_iff.mp E12
  have z_max : PySem.W.nsIn K mainGlobals "max" = some none := He.eqO_ok S
  obtain ⟨S, E12⟩ := Bool.and_eq_true_iff.mp E12
  have z_min : PySem.W.nsIn K mainGlobals "min" = some none := He.eqO_ok S
  obtain ⟨S, E12⟩ := Bool.and_eq_true_iff.mp E12
  have z_zip : PySem.W.nsIn K mainGlobals "zip" = some none := He.eqO_ok S
  obtain ⟨S, E12⟩ := Bool.and_eq_true_iff.mp E12
  have z_repr : PySem.W.nsIn K mainGlobals "repr" = some none := He.eqO_ok S
  have hPL := (c.tab 972 (.head _)).1
  have nPL := (c.tab 972 (.head _)).2
  have hPR := (c.tab 967 (.tail _ (.head _))).1
  have nPR := (c.tab 967 (.tail _ (.head _))).2
  have hPS := (c.tab 960 (.tail _ (.tail _ (.head _)))).1
  have nPS := (c.tab 960 (.tail _ (.tail _ (.head _)))).2
  have hPB := (c.tab 953 (.tail _ (.tail _ (.tail _ (.head _))))).1
  have nPB := (c.tab 953 (.tail _ (.tail _ (.tail _ (.head _))))).2
  have hPM := (c.tab 946 (.tail _ (.tail _ (.tail _ (.tail _ (.head _)))))).1
  have nPM := (c.tab 946 (.tail _ (.tail _ (.tail _ (.tail _ (.head _)))))).2
  have hPN := (c.tab 768 (.tail _ (.tail _ (.tail _ (.tail _ (.tail _ (.head _))))))).1
  have nPN := (c.tab 768 (.tail _ (.tail _ (.tail _ (.tail _ (.tail _ (.head _))))))).2
  have un : (decide ([972, 967, 960, 953, 946, 768].Nodup)) = true := by decide
  exact all_mk c.In G hfa gb gd gm geW geM geB geO geP geU geN geT pgb hdb pob sab ccb obb mkb kCb ib nib ncb pgd hdd pod sad ccd obd mkd kCd id nid ncd pgm hdm pom sam ccm obm mkm kCm im nim ncm cn ct nT nL nR nMT nML nME rd ga cmW crW cfW cmH crH cfH cmE crE cfE cmA crA cfA cmR crR cfR cmK crK cfK pal pg_l pt_l pr_l paml pg_ml pt_ml pr_ml a61 n61 a62 n62 a63 n63 a64 n64 a65 n65 a66 n66 a67 n67 fiC sf nor sub ki kim kitD kt xeW keW beW teW xeM keM beM teM xeB keB beB teB xeO keO beO teO ebN ieN eiN teN noN ebT ieT eiT teT noT x_ww x_mw x_mm x_bw x_bm x_bb x_ow x_om x_ob x_oo x_nw x_nm x_nb x_no x_np x_nu x_nn x_tw x_tm x_tb x_to x_tp x_tu x_tn x_tt d0 l0 q0 k0 d1 l1 q1 k1 d2 l2 q2 k2 d3 l3 q3 k3 d4 l4 q4 k4 d5 l5 q5 k5 d6 l6 q6 k6 d7 l7 q7 k7 d8 l8 q8 k8 d9 l9 q9 k9 d10 l10 q10 k10 d11 l11 q11 k11 d12 l12 q12 k12 d13 l13 q13 k13 d14 l14 q14 k14 d15 l15 q15 k15 d16 l16 q16 k16 d17 l17 q17 k17 d18 l18 q18 k18 d19 l19 q19 k19 d20 l20 q20 k20 d21 l21 q21 k21 d22 l22 q22 k22 d23 l23 q23 k23 d24 l24 q24 k24 d25 l25 q25 k25 d26 l26 q26 k26 d27 l27 q27 k27 d28 l28 q28 k28 d29 l29 q29 k29 d30 l30 q30 k30 d31 l31 q31 k31 d32 l32 q32 k32 d33 l33 q33 k33 d34 l34 q34 k34 d35 l35 q35 k35 d36 l36 q36 k36 d37 l37 q37 k37 d38 l38 q38 k38 d39 l39 q39 k39 d40 l40 q40 k40 d41 l41 q41 k41 d42 l42 q42 k42 d43 l43 q43 k43 d44 l44 q44 k44 d45 l45 q45 k45 d46 l46 q46 k46 d47 l47 q47 k47 l48 q48 k48 l49 q49 k49 l50 q50 k50 l51 q51 k51 l52 q52 k52 l53 q53 k53 l54 q54 k54 l55 q55 k55 l56 q56 k56 l57 q57 k57 l58 q58 k58 l59 q59 k59 l60 q60 k60 l61 q61 k61 l62 q62 k62 l63 q63 k63 l64 q64 k64 l65 q65 k65 l66 q66 k66 l67 q67 k67 kw y0 y50 hPL nPL hCL hPR nPR hCR hPS nPS hCS hPB nPB hCB hPM nPM hCM hPN nPN hCN un vMAX_MADE v_MAX_SIZE v_MAX_PIECES v_MAX_CAP v_MAX_MODULUS vMAX_LETTERS vMAX_PLACES vMAX_STATES vMAX_TIMES v_MOST_MACHINES z_len z_int z_abs z_isinstance z_bool z_str z_all z_range z_sorted z_set z_tuple z_list z_max z_min z_zip z_repr
end WK
open PySem PySem.W PySem.Calls PyProof.Rows
theorem PySem.Challenge.cw_watchkinds_k10_errors_of_boxes_holds : PySem.Challenge.rw_watchkinds_k10_errors_of_boxes.Holds := by
  w_on; o_law
  refine HandSHeadRun.head_any (r := WK.Rw) (q := view WK.Rw.prog [102]) (H := WK.hkAll) (ob := WK.obAll) (M := 9000) (loose := WK.nmAll) (d := HandSHeadRun.topDef WK.Rw.prog 102) (kwd := []) WK.obAll_eq (by kernel_rfl) (fun s => by kernel_rfl) WK.runAll (by kernel_rfl) (by kernel_rfl) (by kernel_rfl) (by rfl) (by first | assumption | decide +kernel) (by decide +kernel) ⟨rfl, rfl, rfl, rfl, rfl, by decide +kernel⟩ ?hw ?hc
  case hw => w_witness2
  case hc =>
    refine WG.walkGTE (l := PySem.Challenge.rw_watchkinds_k10_errors_of_boxes) (n := 63) (k := 14) (x := "_law_script") rfl (by decide) (by kernel_rfl) ⟨rfl, by decide, by decide⟩ ?F
    intro w mg fa h Y G hmg
    obtain ⟨K, c⟩ := Y
    have e : (HandSHeadRun.topDef WK.Rw.prog 102).name = ("law" : PySem.Str) := by kernel_rfl
    rw [e] at hmg
    exact ⟨K, c.In, WK.facts c G hmg⟩
#print axioms PySem.Challenge.cw_watchkinds_k10_errors_of_boxes_holds
