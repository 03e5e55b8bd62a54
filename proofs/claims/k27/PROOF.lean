import PyProof.Rows.All
import Wide.All
import OpenK.AllK
import Wide.FinOn
import HandS.ForMost
import HandS.Exc
import HandS.ExcOwn
import HandS.Wide
import HandS.WideMore
import HandS.Gcd
import HandS.IsInst
import HandS.Conv
import HandS.Zip
import HandS.Walk
import HandS.Defaults
import HandS.TupAny
import HandS.Style
import HandS.Flow
import HandS.CallSlots
import HandS.ExcInit
import HandS.ExcField
import HandS.ExcIs
import HandS.FStr
import HandS.TryOnly
import HandS.WordsExc
import HandS.StrMore
import HandS.Text
import HandS.RaiseMore
import HandS.WideBits
import HandS.Iter
import HandS.Property
import HandS.MakeKw
import HandS.OwnEq
import KE.GoesZip
import KE.GoesEnum
import KE.GoesMore
import PyProof.Laws
import HandS.ExcSuper
import KE.KExcSuper
import HandS.HeadHook4
import HandS.EndBits
import PySem.Challenge.RW_dryholds_k27_stowages_judged
import KE.KStateDown
import Open.Line
import HandS.Head0
import HandS.Head1
import HandS.Head2
import HandS.HeadEnd
set_option Elab.async false
set_option linter.all false
set_option maxRecDepth 100000
set_option maxHeartbeats 0
namespace DL
open PySem PySem.Spec L2

/-- data: what a value is, seen through tuples -/
inductive D where
  | non | bl (b : Bool) | int (i : Int) | str (x : Str) | tup (ds : List D) | ref (a : Addr) | ty (n : String)

mutual
inductive Rep (K : PySem.W.Frag) (H : Hp) : D → V → Prop
  | non : Rep K H .non .non
  | bl (b : Bool) : Rep K H (.bl b) (.bl b)
  | int (i : Int) : Rep K H (.int i) (.int i)
  | str (x : Str) : Rep K H (.str x) (.str x)
  | ref (a : Addr) : Rep K H (.ref a) (.ref a)
  | ty (n : String) : Rep K H (.ty n) (.ty n)
  | tup {p : Addr} {vs : List V} {ds : List D} : SqT K H p vs → Reps K H ds vs → Rep K H (.tup ds) (.ref p)
inductive Reps (K : PySem.W.Frag) (H : Hp) : List D → List V → Prop
  | nil : Reps K H [] []
  | cons {d : D} {ds : List D} {v : V} {vs : List V} : Rep K H d v → Reps K H ds vs → Reps K H (d :: ds) (v :: vs)
end

/-- tuples stay -/
def TX (H H' : Hp) : Prop := ∀ a xs, Rd H a (.tup xs) → Rd H' a (.tup xs)
theorem TX.refl (H : Hp) : TX H H := fun _ _ h => h
theorem TX.trans {H H1 H2 : Hp} (a : TX H H1) (b : TX H1 H2) : TX H H2 := fun c o h => b c o (a c o h)
theorem TX.sq {K : PySem.W.Frag} {H H' : Hp} (e : TX H H') {a : Addr} {xs : List V} (h : SqT K H a xs) : SqT K H' a xs := by
  rcases h with h | h
  · exact .inl (e _ _ h)
  · exact .inr h
theorem TX.of_same {H H' : Hp} (e : Same H H') : TX H H' := fun a xs h => by
  rcases h with h | ⟨o, h⟩
  · exact .inl (e _ _ h)
  · exact .inr ⟨o, e _ _ h⟩
theorem TX.new {H : Hp} {p : Addr} {o : HO} (h : H p = none) : TX H (upd H p o) := TX.of_same fun b o' e => by
  rw [upd_ne (ne_of_none e h)]; exact e
theorem TX.put {H : Hp} {p : Addr} {o u : HO} (h : H p = some u) (h1 : ∀ xs, u ≠ .tup xs) (h2 : ∀ ob w, u ≠ .frz ob w) : TX H (upd H p o) := fun a xs q => by
  rcases q with q | ⟨ob, q⟩
  · exact .inl (by rw [upd_ne (fun e => by subst e; rw [h] at q; exact h1 xs (Option.some.inj q))]; exact q)
  · exact .inr ⟨ob, by rw [upd_ne (fun e => by subst e; rw [h] at q; exact h2 ob _ (Option.some.inj q))]; exact q⟩

mutual
theorem Rep.mono {K : PySem.W.Frag} {H H' : Hp} (e : TX H H') : ∀ {d : D} {v : V}, Rep K H d v → Rep K H' d v
  | _, _, .non => .non
  | _, _, .bl b => .bl b
  | _, _, .int i => .int i
  | _, _, .str x => .str x
  | _, _, .ref a => .ref a
  | _, _, .ty n => .ty n
  | _, _, .tup h r => .tup (e.sq h) (Reps.mono e r)
theorem Reps.mono {K : PySem.W.Frag} {H H' : Hp} (e : TX H H') : ∀ {ds : List D} {vs : List V}, Reps K H ds vs → Reps K H' ds vs
  | _, _, .nil => .nil
  | _, _, .cons h r => .cons (Rep.mono e h) (Reps.mono e r)
end
section
variable {K : PySem.W.Frag} {H : Hp}
theorem Reps.length : ∀ {ds : List D} {vs : List V}, Reps K H ds vs → ds.length = vs.length
  | _, _, .nil => rfl
  | _, _, .cons _ r => by simp [Reps.length r]
theorem Reps.get : ∀ {ds : List D} {vs : List V} {i : Nat} {d : D}, Reps K H ds vs → ds[i]? = some d → ∃ v, vs[i]? = some v ∧ Rep K H d v
  | _, _, _, _, .nil, e => by simp at e
  | _, _, 0, _, .cons r _, e => by simp at e; subst e; exact ⟨_, rfl, r⟩
  | _, _, i + 1, d, .cons _ t, e => by
    obtain ⟨u, h1, h2⟩ := Reps.get (i := i) (d := d) t (by simpa using e)
    exact ⟨u, by simpa using h1, h2⟩
theorem Reps.getV : ∀ {ds : List D} {vs : List V} {i : Nat} {v : V}, Reps K H ds vs → vs[i]? = some v → ∃ d, ds[i]? = some d ∧ Rep K H d v
  | _, _, _, _, .nil, e => by simp at e
  | _, _, 0, _, .cons r _, e => by simp at e; subst e; exact ⟨_, rfl, r⟩
  | _, _, i + 1, v, .cons _ t, e => by
    obtain ⟨u, h1, h2⟩ := Reps.getV (i := i) (v := v) t (by simpa using e)
    exact ⟨u, by simpa using h1, h2⟩
theorem Reps.append : ∀ {ds es : List D} {vs ws : List V}, Reps K H ds vs → Reps K H es ws → Reps K H (ds ++ es) (vs ++ ws)
  | _, _, _, _, .nil, s => s
  | _, _, _, _, .cons r t, s => .cons r (Reps.append t s)
theorem Reps.take : ∀ {ds : List D} {vs : List V} (n : Nat), Reps K H ds vs → Reps K H (ds.take n) (vs.take n)
  | _, _, 0, _ => .nil
  | _, _, _ + 1, .nil => .nil
  | _, _, n + 1, .cons r t => .cons r (Reps.take n t)
theorem Reps.drop : ∀ {ds : List D} {vs : List V} (n : Nat), Reps K H ds vs → Reps K H (ds.drop n) (vs.drop n)
  | _, _, 0, r => r
  | _, _, _ + 1, .nil => .nil
  | _, _, n + 1, .cons _ t => Reps.drop n t
theorem Reps.set {d : D} {v : V} (r : Rep K H d v) : ∀ {ds : List D} {vs : List V} (i : Nat), Reps K H ds vs → Reps K H (ds.set i d) (vs.set i v)
  | _, _, _, .nil => .nil
  | _, _, 0, .cons _ t => .cons r t
  | _, _, i + 1, .cons q t => .cons q (Reps.set r i t)
theorem Reps.ints : ∀ (ns : List Int), Reps K H (ns.map D.int) (ns.map V.int)
  | [] => .nil
  | n :: ns => .cons (.int n) (Reps.ints ns)
theorem Reps.one {d : D} {vs : List V} (r : Reps K H [d] vs) : ∃ v, vs = [v] ∧ Rep K H d v := by
  cases r with
  | cons h t => cases t; exact ⟨_, rfl, h⟩
theorem Reps.two {d e : D} {vs : List V} (r : Reps K H [d, e] vs) : ∃ v w, vs = [v, w] ∧ Rep K H d v ∧ Rep K H e w := by
  cases r with
  | cons h t => obtain ⟨w, rfl, q⟩ := t.one; exact ⟨_, _, rfl, h, q⟩
end

/-- what stands at an address that may change, or is read by its address -/
inductive MO where
  | lst (ds : List D)
  | rol (ds : List D)
  | ins (C : Addr) (fs : List (Str × D))
  | exd (fs : List (Str × D))
abbrev Mm := Addr → Option MO
def Mm.put (M : Mm) (a : Addr) (o : MO) : Mm := fun b => if b = a then some o else M b
theorem Mm.put_same {M : Mm} {a : Addr} {o : MO} : M.put a o a = some o := by unfold Mm.put; rw [if_pos rfl]
theorem Mm.put_ne {M : Mm} {a b : Addr} {o : MO} (h : b ≠ a) : M.put a o b = M b := by unfold Mm.put; rw [if_neg h]
def Mm.le (M M' : Mm) : Prop := ∀ a o, M a = some o → M' a = some o
theorem Mm.le_refl (M : Mm) : M.le M := fun _ _ h => h
theorem Mm.le_trans {M M1 M2 : Mm} (a : M.le M1) (b : M1.le M2) : M.le M2 := fun c o h => b c o (a c o h)
theorem Mm.le_new {M : Mm} {a : Addr} {o : MO} (h : M a = none) : M.le (M.put a o) := fun b u e => by
  by_cases q : b = a
  · subst q; rw [h] at e; cases e
  · rw [Mm.put_ne q]; exact e

def RepM (K : PySem.W.Frag) (H : Hp) (a : Addr) : MO → Prop
  | .lst ds => ∃ vs, H a = some (.lst vs) ∧ Reps K H ds vs
  | .rol ds => ∃ vs o, H a = some (.frz o (.lst vs)) ∧ Reps K H ds vs
  | .ins C fs => ∃ dx vfs, H a = some (.ins C dx vfs) ∧ vfs.length ≤ fs.length ∧ (∀ f d, fs.lookup f = some d → ∃ v, vfs.lookup f = some v ∧ Rep K H d v) ∧ (∀ f, fs.lookup f = none → vfs.lookup f = none)
  | .exd fs => ∃ vfs, H a = some (.xd vfs) ∧ ∀ f d, fs.lookup f = some d → ∃ v, vfs.lookup f = some v ∧ Rep K H d v
def RelM (K : PySem.W.Frag) (M : Mm) (H : Hp) : Prop := ∀ a o, M a = some o → RepM K H a o
section
variable {K : PySem.W.Frag} {H H' : Hp} {M : Mm} {a : Addr} {o : MO}
theorem RepM.some (h : RepM K H a o) : H a ≠ none := by
  cases o with
  | lst ds => obtain ⟨vs, e, _⟩ := h; rw [e]; simp
  | rol ds => obtain ⟨vs, o, e, _⟩ := h; rw [e]; simp
  | ins C fs => obtain ⟨dx, vfs, e, _⟩ := h; rw [e]; simp
  | exd fs => obtain ⟨vfs, e, _⟩ := h; rw [e]; simp
theorem RepM.keep (h : RepM K H a o) (e : TX H H') (k : H' a = H a) : RepM K H' a o := by
  cases o with
  | lst ds => obtain ⟨vs, q, r⟩ := h; exact ⟨vs, k.trans q, r.mono e⟩
  | rol ds => obtain ⟨vs, o, q, r⟩ := h; exact ⟨vs, o, k.trans q, r.mono e⟩
  | ins C fs =>
    obtain ⟨dx, vfs, q, hl, r, n⟩ := h
    exact ⟨dx, vfs, k.trans q, hl, fun f d hf => by obtain ⟨v, h1, h2⟩ := r f d hf; exact ⟨v, h1, h2.mono e⟩, n⟩
  | exd fs =>
    obtain ⟨vfs, q, r⟩ := h
    exact ⟨vfs, k.trans q, fun f d hf => by obtain ⟨v, h1, h2⟩ := r f d hf; exact ⟨v, h1, h2.mono e⟩⟩
theorem RelM.free (r : RelM K M H) (h : H a = none) : M a = none := by
  cases q : M a with
  | none => rfl
  | some o => exact absurd h (r a o q).some
theorem RelM.sq (r : RelM K M H) {ds : List D} (h : M a = some (.lst ds) ∨ M a = some (.rol ds)) : ∃ vs, SqL K H a vs ∧ Reps K H ds vs := by
  rcases h with h | h
  · obtain ⟨vs, e, q⟩ := r a _ h; exact ⟨vs, SqL.of e, q⟩
  · obtain ⟨vs, o, e, q⟩ := r a _ h; exact ⟨vs, .inl (.inr ⟨o, e⟩), q⟩
theorem RelM.new {p : Addr} {u : HO} (r : RelM K M H) (h : H p = none) : RelM K M (upd H p u) := fun a o e =>
  (r a o e).keep (TX.new h) (upd_ne fun q => by subst q; exact absurd h (r a o e).some)
theorem RelM.newL {p : Addr} {vs : List V} {ds : List D} (r : RelM K M H) (h : H p = none) (q : Reps K H ds vs) : RelM K (M.put p (.lst ds)) (upd H p (.lst vs)) := fun a o e => by
  by_cases ha : a = p
  · subst ha; rw [Mm.put_same] at e; cases e
    exact ⟨vs, upd_same, q.mono (TX.new h)⟩
  · rw [Mm.put_ne ha] at e; exact r.new h a o e
theorem RelM.putL {p : Addr} {ws vs : List V} {ds : List D} (r : RelM K M H) (h : H p = some (.lst ws)) (q : Reps K H ds vs) : RelM K (M.put p (.lst ds)) (upd H p (.lst vs)) := fun a o e => by
  have t : TX H (upd H p (.lst vs)) := TX.put h (fun _ z => by cases z) (fun _ _ z => by cases z)
  by_cases ha : a = p
  · subst ha; rw [Mm.put_same] at e; cases e
    exact ⟨vs, upd_same, q.mono t⟩
  · rw [Mm.put_ne ha] at e; exact (r a o e).keep t (upd_ne ha)
end

/-- the slots of a frame -/
abbrev DEnv := List (Option D)
structure RelE (K : PySem.W.Frag) (H : Hp) (ρ : DEnv) (σ : St) : Prop where
  len : ρ.length = σ.length
  at_ : ∀ (i : Nat) (d : D), ρ[i]? = some (some d) → ∃ v, σ[i]? = some (some v) ∧ Rep K H d v
theorem RelE.mono {K : PySem.W.Frag} {H H' : Hp} {ρ : DEnv} {σ : St} (e : TX H H') (r : RelE K H ρ σ) : RelE K H' ρ σ :=
  ⟨r.len, fun i d h => let ⟨v, a, b⟩ := r.at_ i d h; ⟨v, a, b.mono e⟩⟩
theorem RelE.set {K : PySem.W.Frag} {H : Hp} {ρ : DEnv} {σ : St} {i : Nat} {d : D} {v : V} (r : RelE K H ρ σ) (h : Rep K H d v) : RelE K H (ρ.set i (some d)) (σ.set i (some v)) := by
  refine ⟨by simp [r.len], fun j e hj => ?_⟩
  by_cases hi : i = j
  · subst hi
    by_cases hl : i < ρ.length
    · rw [List.getElem?_set_self hl] at hj; cases hj
      exact ⟨v, by rw [List.getElem?_set_self (by rw [← r.len]; exact hl)], h⟩
    · rw [List.getElem?_eq_none (by simpa using hl)] at hj; cases hj
  · rw [List.getElem?_set_ne hi] at hj
    obtain ⟨w, a, b⟩ := r.at_ j e hj
    exact ⟨w, by rw [List.getElem?_set_ne hi]; exact a, b⟩
theorem RelE.start {K : PySem.W.Frag} {H : Hp} {N : List Str} {ds : List D} {vs : List V} (r : Reps K H ds vs) : RelE K H (ds.map some ++ List.replicate (N.length - ds.length) none) (start N vs) := by
  unfold L2.start
  refine ⟨by simp [r.length], fun i d h => ?_⟩
  by_cases hi : i < ds.length
  · rw [List.getElem?_append_left (by simpa using hi), List.getElem?_map] at h
    cases q : ds[i]? with
    | none => rw [q] at h; cases h
    | some e =>
      rw [q] at h; cases h
      obtain ⟨v, a, b⟩ := r.get q
      exact ⟨v, by rw [List.getElem?_append_left (by have := r.length; simp; omega), List.getElem?_map, a]; rfl, b⟩
  · rw [List.getElem?_append_right (by simpa using hi), List.getElem?_replicate] at h
    split at h <;> cases h
/-- the state, seen as data -/
structure Rel (K : PySem.W.Frag) (ρ : DEnv) (M : Mm) (σ : St) (H : Hp) : Prop where
  env : RelE K H ρ σ
  mem : RelM K M H
/-- an exception, seen as data -/
structure Xd where
  C : Addr
  d : Option Addr
def RelX (K : PySem.W.Frag) (H : Hp) (x : Xd) (cls : Value) (dd : Option Addr) : Prop :=
  cls = .ref x.C ∧ dd = x.d
abbrev EK := Xd → Mm → Prop
abbrev QD := D → Mm → Prop
abbrev TD := DEnv → Mm → EK → QD → Prop
abbrev TDs := DEnv → Mm → EK → (List D → Mm → Prop) → Prop
abbrev TDt := DEnv → Mm → EK → (Bool → Mm → Prop) → Prop
abbrev DSp := List D → Mm → EK → QD → Prop

def lift (K : PySem.W.Frag) (W : WX) (td : TD) : TE := fun σ H Q => ∃ ρ M E Qd, Rel K ρ M σ H ∧ td ρ M E Qd ∧
  (∀ d M' v H', TX H H' → Rel K ρ M' σ H' → Rep K H' d v → Qd d M' → Q v H') ∧
  (∀ x M' cls dd H', TX H H' → Rel K ρ M' σ H' → RelX K H' x cls dd → E x M' → W cls dd σ H')
def liftA (K : PySem.W.Frag) (W : WX) (td : TDs) : TA := fun σ H Q => ∃ ρ M E Qd, Rel K ρ M σ H ∧ td ρ M E Qd ∧
  (∀ ds M' vs H', TX H H' → Rel K ρ M' σ H' → Reps K H' ds vs → Qd ds M' → Q vs H') ∧
  (∀ x M' cls dd H', TX H H' → Rel K ρ M' σ H' → RelX K H' x cls dd → E x M' → W cls dd σ H')
def liftT (K : PySem.W.Frag) (W : WX) (td : TDt) : TT := fun σ H Q => ∃ ρ M E Qd, Rel K ρ M σ H ∧ td ρ M E Qd ∧
  (∀ b M' H', TX H H' → Rel K ρ M' σ H' → Qd b M' → Q b H') ∧
  (∀ x M' cls dd H', TX H H' → Rel K ρ M' σ H' → RelX K H' x cls dd → E x M' → W cls dd σ H')

theorem PE.imp {X : Cx} {e : Expr} {t t' : TE} (h : PE X e t) (i : ∀ σ H Q, t' σ H Q → t σ H Q) : PE X e t' := ⟨fun pins s σ H Q I q => h.run pins s σ H Q I (i σ H Q q)⟩
theorem PT.imp {X : Cx} {e : Expr} {t t' : TT} (h : PT X e t) (i : ∀ σ H Q, t' σ H Q → t σ H Q) : PT X e t' := ⟨fun pins s σ H Q I q => h.run pins s σ H Q I (i σ H Q q)⟩
theorem PA.imp {X : Cx} {e : List Expr} {t t' : TA} (h : PA X e t) (i : ∀ σ H Q, t' σ H Q → t σ H Q) : PA X e t' := ⟨fun pos pins s σ H Q I q => h.run pos pins s σ H Q I (i σ H Q q)⟩
/-- nothing is known of what can't be -/
theorem PE.never {X : Cx} {e : Expr} {t : TE} (i : ∀ σ H Q, ¬ t σ H Q) : PE X e t := ⟨fun pins s σ H Q I q => absurd q (i σ H Q)⟩

section
variable {K : PySem.W.Frag} {W : WX} {σ : St} {H : Hp} {ta tb : TD}
/-- one operand, then the rest -/
theorem lift1 {r : V → Hp → VK → Prop} {rd : D → Mm → EK → QD → Prop} {Q : VK}
    (h : lift K W (fun ρ M E Qd => ta ρ M E fun d M1 => rd d M1 E Qd) σ H Q)
    (step : ∀ d v M1 H1 ρ E Qd, Rel K ρ M1 σ H1 → Rep K H1 d v → rd d M1 E Qd →
      (∀ d M' v H', TX H1 H' → Rel K ρ M' σ H' → Rep K H' d v → Qd d M' → Q v H') →
      (∀ x M' cls dd H', TX H1 H' → Rel K ρ M' σ H' → RelX K H' x cls dd → E x M' → W cls dd σ H') → r v H1 Q) :
    lift K W ta σ H fun v H1 => r v H1 Q := by
  obtain ⟨ρ, M, E, Qd, R, t, q, x⟩ := h
  exact ⟨ρ, M, E, _, R, t, fun d M1 v H1 e R1 r1 h1 => step d v M1 H1 ρ E Qd R1 r1 h1
    (fun d M' v H' e' R' r' h' => q d M' v H' (e.trans e') R' r' h') (fun x' M' c dd H' e' R' rx h' => x x' M' c dd H' (e.trans e') R' rx h'), x⟩
/-- two operands, then the rest -/
theorem lift2 {r : R2} {rd : D → D → Mm → EK → QD → Prop} {Q : VK}
    (h : lift K W (fun ρ M E Qd => ta ρ M E fun d M1 => tb ρ M1 E fun e M2 => rd d e M2 E Qd) σ H Q)
    (step : ∀ d e v u M2 H2 ρ E Qd, Rel K ρ M2 σ H2 → Rep K H2 d v → Rep K H2 e u → rd d e M2 E Qd →
      (∀ d M' v H', TX H2 H' → Rel K ρ M' σ H' → Rep K H' d v → Qd d M' → Q v H') →
      (∀ x M' cls dd H', TX H2 H' → Rel K ρ M' σ H' → RelX K H' x cls dd → E x M' → W cls dd σ H') → r v u H2 Q) :
    lift K W ta σ H fun v H1 => lift K W tb σ H1 fun u H2 => r v u H2 Q := by
  obtain ⟨ρ, M, E, Qd, R, t, q, x⟩ := h
  exact ⟨ρ, M, E, _, R, t, fun d M1 v H1 e R1 r1 h1 => ⟨ρ, M1, E, _, R1, h1, fun d2 M2 u H2 e2 R2 r2 h2 =>
    step d d2 v u M2 H2 ρ E Qd R2 (r1.mono e2) r2 h2
      (fun d M' v H' e' R' r' h' => q d M' v H' ((e.trans e2).trans e') R' r' h') (fun x' M' c dd H' e' R' rx h' => x x' M' c dd H' ((e.trans e2).trans e') R' rx h'),
    fun x' M' c dd H' e' R' rx h' => x x' M' c dd H' (e.trans e') R' rx h'⟩, x⟩
/-- an argument list, then the rest -/
theorem liftA1 {t : TDs} {r : List V → Hp → VK → Prop} {rd : List D → Mm → EK → QD → Prop} {Q : VK}
    (h : lift K W (fun ρ M E Qd => t ρ M E fun ds M1 => rd ds M1 E Qd) σ H Q)
    (step : ∀ ds vs M1 H1 ρ E Qd, Rel K ρ M1 σ H1 → Reps K H1 ds vs → rd ds M1 E Qd →
      (∀ d M' v H', TX H1 H' → Rel K ρ M' σ H' → Rep K H' d v → Qd d M' → Q v H') →
      (∀ x M' cls dd H', TX H1 H' → Rel K ρ M' σ H' → RelX K H' x cls dd → E x M' → W cls dd σ H') → r vs H1 Q) :
    liftA K W t σ H fun vs H1 => r vs H1 Q := by
  obtain ⟨ρ, M, E, Qd, R, t, q, x⟩ := h
  exact ⟨ρ, M, E, _, R, t, fun d M1 v H1 e R1 r1 h1 => step d v M1 H1 ρ E Qd R1 r1 h1
    (fun d M' v H' e' R' r' h' => q d M' v H' (e.trans e') R' r' h') (fun x' M' c dd H' e' R' rx h' => x x' M' c dd H' (e.trans e') R' rx h'), x⟩
end
theorem Rel.ext {K : PySem.W.Frag} {ρ : DEnv} {M M' : Mm} {σ : St} {H H' : Hp} (R : Rel K ρ M σ H) (e : TX H H') (m : RelM K M' H') : Rel K ρ M' σ H' := ⟨R.env.mono e, m⟩
end DL
namespace DL
open PySem PySem.Spec L2

/-! ### operations on data -/
def seqD (M : Mm) : D → Option (List D)
  | .tup ds => some ds
  | .ref a => match M a with
    | some (.lst ds) => some ds
    | some (.rol ds) => some ds
    | _ => none
  | _ => none
def toPys (f : D → Option PyData) : List D → Option (List PyData)
  | [] => some []
  | d :: ds => match f d, toPys f ds with
    | some p, some ps => some (p :: ps)
    | _, _ => none
def toPy (M : Mm) : Nat → D → Option PyData
  | 0, _ => none
  | n + 1, d => match d with
    | .non => some .none
    | .bl b => some (.bool b)
    | .int i => some (.int i)
    | .str x => if PySem.PyData.strOk x then some (.str x) else none
    | .tup ds => match toPys (toPy M n) ds with | some ps => some (.tuple ps) | none => none
    | .ref a => match M a with
      | some (.lst ds) => (match toPys (toPy M n) ds with | some ps => some (.list ps) | none => none)
      | some (.rol ds) => (match toPys (toPy M n) ds with | some ps => some (.list ps) | none => none)
      | _ => none
    | .ty _ => none
def D.isNon : D → Bool
  | .non => true
  | _ => false
/-- flat data: ints, bools, texts, none -/
def D.flat : D → Bool
  | .non => true
  | .bl _ => true
  | .int _ => true
  | .str _ => true
  | _ => false
def D.toV : D → V
  | .non => .non
  | .bl b => .bl b
  | .int i => .int i
  | .str x => .str x
  | .tup _ => .non
  | .ref a => .ref a
  | .ty n => .ty n
def cmpD (M : Mm) : CmpOp → D → D → Option Bool
  | .Lt, .int i, .int j => some (decide (i < j))
  | .LtE, .int i, .int j => some (decide (i ≤ j))
  | .Gt, .int i, .int j => some (decide (j < i))
  | .GtE, .int i, .int j => some (decide (j ≤ i))
  | .Eq, x, y => match toPy M 9 x, toPy M 9 y with
    | some p, some q => some (PyData.eqv p q)
    | _, _ => none
  | .NotEq, x, y => match toPy M 9 x, toPy M 9 y with
    | some p, some q => some (!PyData.eqv p q)
    | _, _ => none
  | .Is, x, .non => some x.isNon
  | .IsNot, x, .non => some (!x.isNon)
  | .Is, .bl a, .bl b => some (decide (a = b))
  | .IsNot, .bl a, .bl b => some (!decide (a = b))
  | .In, x, y => match seqD M y with
    | some ds => if x.flat && ds.all D.flat then some (inV x.toV (ds.map D.toV)) else none
    | none => none
  | .NotIn, x, y => match seqD M y with
    | some ds => if x.flat && ds.all D.flat then some (!inV x.toV (ds.map D.toV)) else none
    | none => none
  | _, _, _ => none
abbrev RD := D → D → Mm → QD → Prop
/-- sizes that * and // take: far beyond a script's own -/
def MulB (i j : Int) : Prop := i.natAbs.log2 + j.natAbs.log2 < 100000000
def DivB (j : Int) : Prop := j ≠ 0 ∧ j.natAbs.log2 < 9000
def opD (o : Operator) : RD := fun x y M Q => match o, x, y with
  | .Add, .int i, .int j => Q (.int (i + j)) M
  | .Sub, .int i, .int j => Q (.int (i - j)) M
  | .Mult, .int i, .int j => MulB i j ∧ Q (.int (i * j)) M
  | .FloorDiv, .int i, .int j => DivB j ∧ Q (.int (i.fdiv j)) M
  | .Mod, .int i, .int j => 0 < j ∧ Q (.int (i % j)) M
  | .Pow, .int i, .int j => CPow i j ∧ Q (.int (i ^ j.toNat)) M
  | .Add, .str i, .str j => i.length + j.length ≤ sizeLine ∧ Q (.str (i ++ j)) M
  | .Add, .tup xs, .tup ys => xs.length + ys.length ≤ sizeLine ∧ Q (.tup (xs ++ ys)) M
  | .Add, .ref a, .ref b => ∃ xs ys, M a = some (.lst xs) ∧ M b = some (.lst ys) ∧ xs.length + ys.length ≤ sizeLine ∧ ∀ p, M p = none → Q (.ref p) (M.put p (.lst (xs ++ ys)))
  | .Mult, .ref a, .int k => ∃ xs, M a = some (.lst xs) ∧ 0 ≤ k ∧ k < 2 ^ 62 ∧ xs.length * k.toNat ≤ sizeLine ∧ ∀ p, M p = none → Q (.ref p) (M.put p (.lst (List.replicate k.toNat xs).flatten))
  | _, _, _ => False
def ixD : RD := fun x y M Q => match x, y with
  | .tup ds, .int i => ∃ d, atI ds i = some d ∧ Q d M
  | .ref a, .int i => ∃ ds, (M a = some (.lst ds) ∨ M a = some (.rol ds)) ∧ ∃ d, atI ds i = some d ∧ Q d M
  | .str z, .int i => z.length ≤ sizeLine ∧ ∃ c, atI z.cps.toList i = some c ∧ Q (.str ⟨#[c]⟩) M
  | _, _ => False
def cutD (xs : List D) (lo hi : Option Int) : List D := (xs.drop (HT.sIx xs.length 0 lo)).take (HT.sIx xs.length xs.length hi - HT.sIx xs.length 0 lo)
def slcD (x : D) (lo hi : Option Int) (M : Mm) (Q : QD) : Prop := match x with
  | .tup ds => Q (.tup (cutD ds lo hi)) M
  | .ref a => ∃ ds, (M a = some (.lst ds) ∨ M a = some (.rol ds)) ∧ ∀ p, M p = none → Q (.ref p) (M.put p (.lst (cutD ds lo hi)))
  | _ => False
def truD (M : Mm) : D → Option Bool
  | .non => some false
  | .bl b => some b
  | .int i => some (i != 0)
  | .tup ds => some (!ds.isEmpty)
  | .ref a => match M a with
    | some (.lst ds) => some (!ds.isEmpty)
    | some (.rol ds) => some (!ds.isEmpty)
    | _ => none
  | _ => none

/-! ### the same, by the layer's values -/
def liftR (K : PySem.W.Frag) (rd : RD) : R2 := fun v u H Q => ∃ d e M Qd, RelM K M H ∧ Rep K H d v ∧ Rep K H e u ∧ rd d e M Qd ∧
  ∀ d' M' v' H', TX H H' → RelM K M' H' → Rep K H' d' v' → Qd d' M' → Q v' H'
def liftC (K : PySem.W.Frag) (rd : List D → Mm → QD → Prop) : List V → Hp → VK → Prop := fun vs H Q => ∃ ds M Qd, RelM K M H ∧ Reps K H ds vs ∧ rd ds M Qd ∧
  ∀ d' M' v' H', TX H H' → RelM K M' H' → Rep K H' d' v' → Qd d' M' → Q v' H'
theorem OpR.imp {X : Cx} {f : Value → Value → Sem Value} {r r' : R2} (h : OpR X f r) (i : ∀ v u H Q, r' v u H Q → r v u H Q) : OpR X f r' := fun pins s σ H x y v u Q I rx ry q => h pins s σ H x y v u Q I rx ry (i _ _ _ _ q)
theorem CallR.imp {X : Cx} {f : Value} {r r' : List V → Hp → VK → Prop} (h : CallR X f r) (i : ∀ v H Q, r' v H Q → r v H Q) : CallR X f r' := fun pins s σ H xs us Q I rx q => h pins s σ H xs us Q I rx (i _ _ _ q)
theorem OpR.ex {X : Cx} {f : Value → Value → Sem Value} {ι : Prop} {r : R2} (h : ι → OpR X f r) : OpR X f (fun x y H Q => ι ∧ r x y H Q) := fun pins s σ H x y v u Q I rx ry q => h q.1 pins s σ H x y v u Q I rx ry q.2

section
variable {K : PySem.W.Frag} {H : Hp} {M : Mm} {d : D} {v : V}
theorem Rep.int_inv {i : Int} (h : Rep K H (.int i) v) : v = .int i := by cases h; rfl
theorem Rep.bl_inv {b : Bool} (h : Rep K H (.bl b) v) : v = .bl b := by cases h; rfl
theorem Rep.str_inv {x : Str} (h : Rep K H (.str x) v) : v = .str x := by cases h; rfl
theorem Rep.ref_inv {a : Addr} (h : Rep K H (.ref a) v) : v = .ref a := by cases h; rfl
theorem Rep.non_inv (h : Rep K H .non v) : v = .non := by cases h; rfl
theorem Rep.ty_inv {n : String} (h : Rep K H (.ty n) v) : v = .ty n := by cases h; rfl
theorem Rep.tup_inv {ds : List D} (h : Rep K H (.tup ds) v) : ∃ p vs, v = .ref p ∧ SqT K H p vs ∧ Reps K H ds vs := by
  cases h with | tup a b => exact ⟨_, _, rfl, a, b⟩
theorem Rep.isNon (h : Rep K H d v) : decide (v = .non) = d.isNon := by
  cases h <;> simp [D.isNon]
theorem seqD_sq {ds : List D} (h : seqD M d = some ds) (r : Rep K H d v) (m : RelM K M H) : ∃ a vs, v = .ref a ∧ (SqL K H a vs ∨ SqT K H a vs) ∧ Reps K H ds vs := by
  cases r with
  | tup s q => simp only [seqD, Option.some.injEq] at h; subst h; exact ⟨_, _, rfl, .inr s, q⟩
  | ref a =>
    simp only [seqD] at h
    split at h
    · rename_i e; cases h; obtain ⟨vs, a1, a2⟩ := m.sq (.inl e); exact ⟨_, vs, rfl, .inl a1, a2⟩
    · rename_i e; cases h; obtain ⟨vs, a1, a2⟩ := m.sq (.inr e); exact ⟨_, vs, rfl, .inl a1, a2⟩
    · cases h
  | _ => simp [seqD] at h
theorem toPys_len {f : D → Option PyData} : ∀ {ds : List D} {ps : List PyData}, toPys f ds = some ps → ∀ d ∈ ds, ∃ p, f d = some p
  | [], _, _, d, hd => by simp at hd
  | e :: ds, ps, h, d, hd => by
    simp only [toPys] at h
    split at h
    · rename_i p q h1 h2
      rcases List.mem_cons.mp hd with rfl | hd
      · exact ⟨_, h1⟩
      · exact toPys_len h2 d hd
    · cases h
theorem toPy_dp (m : RelM K M H) : ∀ (n : Nat) (d : D) (v : V) (p : PyData), toPy M n d = some p → Rep K H d v → Dp K H v p ∧ p.canLay0 = true ∧ p.depth ≤ n
  | 0, d, v, p, h, _ => by simp [toPy] at h
  | n + 1, d, v, p, h, r => by
    have all : ∀ (ds : List D) (vs : List V) (ps : List PyData), toPys (toPy M n) ds = some ps → Reps K H ds vs → DpAll K H vs ps ∧ PyData.canLayAll0 ps = true ∧ PyData.depthAll ps ≤ n := by
      intro ds
      induction ds with
      | nil => intro vs ps h r; cases r; simp only [toPys, Option.some.injEq] at h; subst h; exact ⟨.nil, rfl, by simp [PyData.depthAll]⟩
      | cons e ds ih =>
        intro vs ps h r
        cases r with
        | cons r1 r2 =>
          simp only [toPys] at h
          split at h
          · rename_i p q h1 h2
            cases h
            obtain ⟨a1, a2, a3⟩ := toPy_dp m n e _ p h1 r1
            obtain ⟨b1, b2, b3⟩ := ih _ _ h2 r2
            exact ⟨.cons a1 b1, by simp [PyData.canLayAll0, a2, b2], by simp only [PyData.depthAll]; omega⟩
          · cases h
    cases r with
    | non => simp only [toPy, Option.some.injEq] at h; subst h; exact ⟨.non, rfl, by simp [PyData.depth]⟩
    | bl b => simp only [toPy, Option.some.injEq] at h; subst h; exact ⟨.bl b, rfl, by simp [PyData.depth]⟩
    | int b => simp only [toPy, Option.some.injEq] at h; subst h; exact ⟨.int b, rfl, by simp [PyData.depth]⟩
    | str x =>
      simp only [toPy] at h
      split at h
      · rename_i hx; cases h; exact ⟨.str x, by simpa [PyData.canLay0] using hx, by simp [PyData.depth]⟩
      · cases h
    | ty n => simp [toPy] at h
    | tup s q =>
      simp only [toPy] at h
      split at h
      · rename_i ps hp
        cases h
        obtain ⟨a1, a2, a3⟩ := all _ _ _ hp q
        exact ⟨.tup s a1, by simpa [PyData.canLay0] using a2, by simp only [PyData.depth]; omega⟩
      · cases h
    | ref a =>
      have go : ∀ ds, (M a = some (.lst ds) ∨ M a = some (.rol ds)) → (match toPys (toPy M n) ds with | some ps => some (PyData.list ps) | none => none) = some p → Dp K H (.ref a) p ∧ p.canLay0 = true ∧ p.depth ≤ n + 1 := by
        intro ds hm h
        obtain ⟨vs, s, q⟩ := m.sq hm
        split at h
        · rename_i ps hp
          cases h
          obtain ⟨a1, a2, a3⟩ := all _ _ _ hp q
          exact ⟨.lst s a1, by simpa [PyData.canLay0] using a2, by simp only [PyData.depth]; omega⟩
        · cases h
      simp only [toPy] at h
      split at h
      · rename_i ds e; exact go ds (.inl e) h
      · rename_i ds e; exact go ds (.inr e) h
      · cases h
theorem Rep.flatV (h : Rep K H d v) (f : d.flat = true) : v = d.toV ∧ flatV v = true := by
  cases h <;> first | (simp [D.flat] at f; done) | exact ⟨rfl, rfl⟩
theorem Reps.flatV : ∀ {ds : List D} {vs : List V}, Reps K H ds vs → ds.all D.flat = true → vs = ds.map D.toV ∧ vs.all L2.flatV = true
  | _, _, .nil, _ => ⟨rfl, rfl⟩
  | _, _, .cons h r, f => by
    simp only [List.all_cons, Bool.and_eq_true] at f
    obtain ⟨a, b⟩ := h.flatV f.1
    obtain ⟨c, e⟩ := Reps.flatV r f.2
    exact ⟨by rw [List.map_cons, ← a, ← c], by simp [b, e]⟩
end

section
variable {X : Cx}
theorem atI_len {α β : Type} {xs : List α} {ys : List β} {i : Int} {x : α} (h : atI xs i = some x) (hl : xs.length = ys.length) (g : ∀ (j : Nat), xs[j]? = some x → ∃ y : β, ys[j]? = some y) : ∃ (y : β) (j : Nat), atI ys i = some y ∧ xs[j]? = some x ∧ ys[j]? = some y := by
  unfold atI at h ⊢
  rw [← hl]
  cases e : ixN xs.length i with
  | none => rw [e] at h; cases h
  | some j =>
    rw [e] at h
    obtain ⟨y, hy⟩ := g j h
    exact ⟨y, j, hy, h, hy⟩
theorem Reps.at_ {K : PySem.W.Frag} {H : Hp} {ds : List D} {vs : List V} {i : Int} {d : D} (r : Reps K H ds vs) (h : atI ds i = some d) : ∃ v, atI vs i = some v ∧ Rep K H d v := by
  obtain ⟨v, j, a, b, c⟩ := atI_len h r.length fun j hj => let ⟨v, q, _⟩ := r.get hj; ⟨v, q⟩
  obtain ⟨w, q1, q2⟩ := r.get b
  rw [c] at q1; cases q1
  exact ⟨v, a, q2⟩
theorem cmp_ok (hu : X.A.units + 64 < cLine) (o : CmpOp) : OpR X (compareOp o) (liftR X.K fun x y M Q => ∃ b, cmpD M o x y = some b ∧ Q (.bl b) M) := by
  intro pins s σ H x y v u Q I rx ry h
  obtain ⟨d, e, M, Qd, m, r1, r2, ⟨b, hb, q⟩, k⟩ := h
  have fin : Q (.bl b) H := k _ _ _ _ (TX.refl H) m (.bl b) q
  cases o with
  | Lt =>
    cases d <;> cases e <;> simp only [cmpD] at hb <;> first | (cases hb; done) | skip
    cases hb; cases r1; cases r2
    exact op_lt pins s σ H _ _ v u Q I rx ry ⟨_, _, rfl, rfl, fin⟩
  | LtE =>
    cases d <;> cases e <;> simp only [cmpD] at hb <;> first | (cases hb; done) | skip
    cases hb; cases r1; cases r2
    exact op_le pins s σ H _ _ v u Q I rx ry ⟨_, _, rfl, rfl, fin⟩
  | Gt =>
    cases d <;> cases e <;> simp only [cmpD] at hb <;> first | (cases hb; done) | skip
    cases hb; cases r1; cases r2
    exact op_gt pins s σ H _ _ v u Q I rx ry ⟨_, _, rfl, rfl, fin⟩
  | GtE =>
    cases d <;> cases e <;> simp only [cmpD] at hb <;> first | (cases hb; done) | skip
    cases hb; cases r1; cases r2
    exact op_ge pins s σ H _ _ v u Q I rx ry ⟨_, _, rfl, rfl, fin⟩
  | Eq =>
    simp only [cmpD] at hb
    split at hb
    · rename_i p q' h1 h2
      cases hb
      obtain ⟨a1, a2, a3⟩ := toPy_dp m _ _ _ _ h1 r1
      obtain ⟨b1, b2, b3⟩ := toPy_dp m _ _ _ _ h2 r2
      exact op_eqD hu pins s σ H _ _ v u Q I rx ry ⟨p, q', a1, b1, by simp only [SeqAt.shaped, a2, Bool.true_and, decide_eq_true_eq]; omega, by simp only [SeqAt.shaped, b2, Bool.true_and, decide_eq_true_eq]; omega, fin⟩
    · cases hb
  | NotEq =>
    simp only [cmpD] at hb
    split at hb
    · rename_i p q' h1 h2
      cases hb
      obtain ⟨a1, a2, a3⟩ := toPy_dp m _ _ _ _ h1 r1
      obtain ⟨b1, b2, b3⟩ := toPy_dp m _ _ _ _ h2 r2
      exact op_neD hu pins s σ H _ _ v u Q I rx ry ⟨p, q', a1, b1, by simp only [SeqAt.shaped, a2, Bool.true_and, decide_eq_true_eq]; omega, by simp only [SeqAt.shaped, b2, Bool.true_and, decide_eq_true_eq]; omega, fin⟩
    · cases hb
  | Is =>
    cases e <;> first
      | (simp only [cmpD] at hb; cases hb; cases r2
         exact op_isN pins s σ H _ _ v u Q I rx ry ⟨rfl, by rw [r1.isNon]; exact fin⟩)
      | (cases d <;> simp only [cmpD] at hb <;> try (cases hb; done)
         all_goals try (cases hb; cases r1; cases r2)
         all_goals exact op_isBl pins s σ H _ _ v u Q I rx ry ⟨_, _, rfl, rfl, fin⟩)
  | IsNot =>
    cases e <;> first
      | (simp only [cmpD] at hb; cases hb; cases r2
         exact op_notN pins s σ H _ _ v u Q I rx ry ⟨rfl, by rw [r1.isNon]; exact fin⟩)
      | (cases d <;> simp only [cmpD] at hb <;> try (cases hb; done)
         all_goals try (cases hb; cases r1; cases r2)
         all_goals exact op_notBl pins s σ H _ _ v u Q I rx ry ⟨_, _, rfl, rfl, fin⟩)
  | In =>
    simp only [cmpD] at hb
    split at hb
    · rename_i ds hs
      split at hb
      · rename_i hf
        cases hb
        simp only [Bool.and_eq_true] at hf
        obtain ⟨a, vs, rfl, sq, rs⟩ := seqD_sq hs r2 m
        obtain ⟨e1, f1⟩ := r1.flatV hf.1
        obtain ⟨e2, f2⟩ := rs.flatV hf.2
        refine op_in_seq pins s σ H _ _ v u Q I rx ry ⟨a, vs, rfl, sq, f1, f2, ?_⟩
        rw [e1, e2]; exact fin
      · cases hb
    · cases hb
  | NotIn =>
    simp only [cmpD] at hb
    split at hb
    · rename_i ds hs
      split at hb
      · rename_i hf
        cases hb
        simp only [Bool.and_eq_true] at hf
        obtain ⟨a, vs, rfl, sq, rs⟩ := seqD_sq hs r2 m
        obtain ⟨e1, f1⟩ := r1.flatV hf.1
        obtain ⟨e2, f2⟩ := rs.flatV hf.2
        refine op_notIn_seq pins s σ H _ _ v u Q I rx ry ⟨a, vs, rfl, sq, f1, f2, ?_⟩
        rw [e1, e2]; exact fin
      · cases hb
    · cases hb
end
end DL
namespace DL
open PySem PySem.Spec L2
section
variable {X : Cx}
theorem reps_ne {K : PySem.W.Frag} {H : Hp} {ds : List D} {vs : List V} (r : Reps K H ds vs) : vs = [] ↔ ds = [] := by
  cases r <;> simp
theorem SqL.lst_of {K : PySem.W.Frag} {M : Mm} {H : Hp} {a : Addr} {ds : List D} (m : RelM K M H) (h : M a = some (.lst ds)) : ∃ vs, H a = some (.lst vs) ∧ Reps K H ds vs := m a _ h
theorem Reps.rep {K : PySem.W.Frag} {H : Hp} {ds : List D} {vs : List V} (r : Reps K H ds vs) : ∀ n, Reps K H (List.replicate n ds).flatten (List.replicate n vs).flatten
  | 0 => .nil
  | n + 1 => by
    rw [List.replicate_succ, List.replicate_succ, List.flatten_cons, List.flatten_cons]
    exact r.append (Reps.rep r n)
theorem MulB.fits {i j : Int} (h : MulB i j) : PySem.IntMulOk i j := by
  have bt : ∀ x : Int, Builtin.Int.intBits x ≤ x.natAbs.log2 + 1 := fun x => by unfold Builtin.Int.intBits; split <;> omega
  have b1 := bt i; have b2 := bt j
  have hs : i.natAbs.log2 + j.natAbs.log2 < 100000000 := h
  have el : bitsLine = 134217728 := by decide
  unfold PySem.IntMulOk; intro z
  rw [Bool.and_eq_true] at z
  have z2 := z.2; unfold Builtin.Int.intTooBig at z2
  have z3 := of_decide_eq_true z2; rw [el] at z3; omega
theorem op_mulB {X : Cx} : OpR X (binaryOp .Mult) (rI MulB fun i j => .int (i * j)) := opI fun _ _ _ _ _ _ _ hc q => PyProof.Rows.mul_int q hc.fits
theorem op_fdivB {X : Cx} : OpR X (binaryOp .FloorDiv) (rI (fun _ j => DivB j) fun i j => .int (i.fdiv j)) := opI fun _ _ _ _ _ _ _ hc q => PyProof.Rows.floordiv_int hc.1 q (.inl (PyProof.noPylong_of_log2 hc.2))
theorem op_ok (o : Operator) : OpR X (binaryOp o) (liftR X.K (opD o)) := by
  intro pins s σ H x y v u Q I rx ry h
  obtain ⟨d, e, M, Qd, m, r1, r2, q, k⟩ := h
  have at_ : ∀ {d : D} {v : V}, Rep X.K H d v → Qd d M → Q v H := fun r q => k _ _ _ _ (TX.refl H) m r q
  cases o with
  | Add =>
    cases d <;> cases e <;> try (exact q.elim)
    · cases r1; cases r2
      exact op_add pins s σ H _ _ v u Q I rx ry ⟨_, _, rfl, rfl, at_ (.int _) q⟩
    · cases r1; cases r2
      obtain ⟨z, q⟩ := q
      exact op_add_str pins s σ H _ _ v u Q I rx ry ⟨_, _, rfl, rfl, z, at_ (.str _) q⟩
    · rename_i xs ys
      obtain ⟨z, q⟩ := q
      obtain ⟨a, vs, rfl, s1, q1⟩ := r1.tup_inv
      obtain ⟨b, ws, rfl, s2, q2⟩ := r2.tup_inv
      refine op_catA pins s σ H _ _ v u Q I rx ry ⟨a, b, vs, ws, rfl, rfl, s1, s2, by rw [← q1.length, ← q2.length]; exact z, fun e => ?_, fun e1 e2 => ?_, fun e1 e2 p hp => ?_⟩
      · rw [(reps_ne q1).mp e, List.nil_append] at q
        exact at_ r2 q
      · rw [(reps_ne q2).mp e2, List.append_nil] at q
        exact at_ r1 q
      · exact k _ _ _ _ (TX.new hp) (m.new hp) (.tup (SqT.of upd_same) ((q1.append q2).mono (TX.new hp))) q
    · obtain ⟨xs, ys, h1, h2, z, q⟩ := q
      cases r1; cases r2
      obtain ⟨vs, e1, q1⟩ := m _ _ h1
      obtain ⟨ws, e2, q2⟩ := m _ _ h2
      exact op_cat pins s σ H _ _ v u Q I rx ry ⟨_, _, vs, ws, rfl, rfl, e1, e2, by rw [← q1.length, ← q2.length]; exact z, fun p hp => k _ _ _ _ (TX.new hp) (m.newL hp (q1.append q2)) (.ref p) (q p (m.free hp))⟩
  | Sub =>
    cases d <;> cases e <;> try (exact q.elim)
    cases r1; cases r2
    exact op_sub pins s σ H _ _ v u Q I rx ry ⟨_, _, rfl, rfl, at_ (.int _) q⟩
  | Mult =>
    cases d <;> cases e <;> try (exact q.elim)
    · cases r1; cases r2
      exact op_mulB pins s σ H _ _ v u Q I rx ry ⟨_, _, rfl, rfl, q.1, at_ (.int _) q.2⟩
    · obtain ⟨xs, h1, k0, k1, z, q⟩ := q
      cases r1; cases r2
      obtain ⟨vs, e1, q1⟩ := m _ _ h1
      exact op_rep pins s σ H _ _ v u Q I rx ry ⟨_, _, vs, rfl, rfl, e1, by omega, by omega, by rw [← q1.length]; exact z, fun p hp => k _ _ _ _ (TX.new hp) (m.newL hp (q1.rep _)) (.ref p) (q p (m.free hp))⟩
  | FloorDiv =>
    cases d <;> cases e <;> try (exact q.elim)
    cases r1; cases r2
    exact op_fdivB pins s σ H _ _ v u Q I rx ry ⟨_, _, rfl, rfl, q.1, at_ (.int _) q.2⟩
  | Mod =>
    cases d <;> cases e <;> try (exact q.elim)
    cases r1; cases r2
    exact op_mod pins s σ H _ _ v u Q I rx ry ⟨_, _, rfl, rfl, q.1, at_ (.int _) q.2⟩
  | Pow =>
    cases d <;> cases e <;> try (exact q.elim)
    cases r1; cases r2
    exact op_pow pins s σ H _ _ v u Q I rx ry ⟨_, _, rfl, rfl, q.1, at_ (.int _) q.2⟩
  | _ => cases d <;> cases e <;> exact q.elim
theorem ix_ok : IxR X (liftR X.K ixD) := by
  intro value slice pins s σ H x y v u Q I rx ry h hs
  obtain ⟨d, e, M, Qd, m, r1, r2, q, k⟩ := h
  have at_ : ∀ {d : D} {v : V}, Rep X.K H d v → Qd d M → Q v H := fun r q => k _ _ _ _ (TX.refl H) m r q
  cases d <;> cases e <;> try (exact q.elim)
  · cases r1; cases r2
    obtain ⟨z, c, h, q⟩ := q
    exact ix_str value slice pins s σ H _ _ v u Q I rx ry ⟨_, _, c, rfl, rfl, z, h, at_ (.str _) q⟩ hs
  · cases r2
    obtain ⟨d, h, q⟩ := q
    obtain ⟨a, vs, rfl, s1, q1⟩ := r1.tup_inv
    obtain ⟨w, h2, r⟩ := q1.at_ h
    exact ix_tup value slice pins s σ H _ _ v u Q I rx ry ⟨a, vs, _, w, rfl, rfl, s1, h2, at_ r q⟩ hs
  · cases r1; cases r2
    obtain ⟨ds, hm, d, h, q⟩ := q
    obtain ⟨vs, s1, q1⟩ := m.sq hm
    obtain ⟨w, h2, r⟩ := q1.at_ h
    exact ix_list value slice pins s σ H _ _ v u Q I rx ry ⟨_, vs, _, w, rfl, rfl, s1, h2, at_ r q⟩ hs
theorem Reps.cut {K : PySem.W.Frag} {H : Hp} {ds : List D} {vs : List V} (r : Reps K H ds vs) (lo hi : Option Int) : Reps K H (cutD ds lo hi) (cutV vs lo hi) := by
  unfold cutD cutV
  rw [r.length]
  exact (r.drop _).take _
def liftS (K : PySem.W.Frag) : V → Option Int → Option Int → Hp → VK → Prop := fun v lo hi H Q => ∃ d M Qd, RelM K M H ∧ Rep K H d v ∧ slcD d lo hi M Qd ∧
  ∀ d' M' v' H', TX H H' → RelM K M' H' → Rep K H' d' v' → Qd d' M' → Q v' H'
theorem slc_ok : SlR X (liftS X.K) := by
  intro pins s σ H x v vl vu lo hi sl Q I rx hs pl pu h
  obtain ⟨d, M, Qd, m, r1, q, k⟩ := h
  cases d <;> try (exact q.elim)
  · rename_i ds
    obtain ⟨a, vs, rfl, s1, q1⟩ := r1.tup_inv
    refine sl_tupA pins s σ H _ v vl vu lo hi sl Q I rx hs pl pu ⟨a, vs, rfl, s1, fun e => ?_, fun _ p hp => ?_⟩
    · have c : cutD ds lo hi = ds := by
        unfold cutD
        rw [q1.length, e.1, e.2, List.drop_zero, Nat.sub_zero, ← q1.length, List.take_length]
      have q : Qd (.tup (cutD ds lo hi)) M := q
      rw [c] at q
      exact k _ _ _ _ (TX.refl H) m r1 q
    · exact k _ _ _ _ (TX.new hp) (m.new hp) (.tup (SqT.of upd_same) ((q1.cut lo hi).mono (TX.new hp))) q
  · obtain ⟨ds, hm, q⟩ := q
    cases r1
    obtain ⟨vs, s1, q1⟩ := m.sq hm
    exact sl_list pins s σ H _ v vl vu lo hi sl Q I rx hs pl pu ⟨_, vs, rfl, s1, fun p hp => k _ _ _ _ (TX.new hp) (m.newL hp (q1.cut lo hi)) (.ref p) (q p (m.free hp))⟩
theorem truD_ok {K : PySem.W.Frag} {M : Mm} {H : Hp} {d : D} {v : V} {b : Bool} (m : RelM K M H) (r : Rep K H d v) (h : truD M d = some b) : TruV K v H b := by
  have emp : ∀ {ds : List D} {vs : List V}, Reps K H ds vs → (!vs.isEmpty) = !ds.isEmpty := fun r => by cases r <;> rfl
  cases r with
  | non => simp only [truD, Option.some.injEq] at h; exact h.symm
  | bl c => simp only [truD, Option.some.injEq] at h; exact h.symm
  | int i => simp only [truD, Option.some.injEq] at h; exact h.symm
  | str x => simp [truD] at h
  | ty n => simp [truD] at h
  | tup s q => simp only [truD, Option.some.injEq] at h; exact .inr (.inl ⟨_, s, by rw [emp q]; exact h.symm⟩)
  | ref a =>
    simp only [truD] at h
    split at h
    · rename_i ds e; cases h; obtain ⟨vs, a1, a2⟩ := m.sq (.inl e); exact .inl ⟨vs, a1, (emp a2).symm⟩
    · rename_i ds e; cases h; obtain ⟨vs, a1, a2⟩ := m.sq (.inr e); exact .inl ⟨vs, a1, (emp a2).symm⟩
    · cases h
end

/-! ### built-in functions -/
inductive Bi where
  | len | abs | int | gcd | isi | list | tuple | max | min | sum | any | all | str | divmod
  deriving DecidableEq
def Bi.name : Bi → Str
  | .len => "len" | .abs => "abs" | .int => "int" | .gcd => "gcd" | .isi => "isinstance" | .list => "list" | .tuple => "tuple" | .max => "max" | .min => "min" | .sum => "sum" | .any => "any" | .all => "all" | .str => "str" | .divmod => "divmod"
inductive Ty where
  | int | bool | str | none | tuple | list
  deriving DecidableEq
def Ty.nm : Ty → String
  | .int => "int" | .bool => "bool" | .str => "str" | .none => "NoneType" | .tuple => "tuple" | .list => "list"
def Ty.of (M : Mm) : D → Option Ty
  | .non => some .none
  | .bl _ => some .bool
  | .int _ => some .int
  | .str _ => some .str
  | .tup _ => some .tuple
  | .ref a => match M a with
    | some (.lst _) => some .list
    | some (.rol _) => some .list
    | _ => Option.none
  | .ty _ => Option.none
def Ty.sub (a b : Ty) : Bool := decide (a = b) || (decide (a = .bool) && decide (b = .int))
theorem kit_sub : ∀ a b : Ty, kitB a.nm b.nm = some (a.sub b) := by
  intro a b
  cases a <;> cases b <;> decide +kernel
def intsD : List D → Option (List Int)
  | [] => some []
  | .int i :: r => (intsD r).map (i :: ·)
  | _ => none
def blsD : List D → Option (List Bool)
  | [] => some []
  | .bl i :: r => (blsD r).map (i :: ·)
  | _ => none
def isiD (M : Mm) (x : D) : D → Option Bool
  | .ty n => match Ty.of M x with
    | some t => if n = "int" then some (t.sub .int) else if n = "bool" then some (t.sub .bool) else if n = "tuple" then some (t.sub .tuple) else if n = "list" then some (t.sub .list) else if n = "str" then some (t.sub .str) else none
    | none => none
  | .tup [.ty "list", .ty "tuple"] => match Ty.of M x with
    | some t => some (t.sub .list || t.sub .tuple)
    | none => none
  | _ => none
def biD (b : Bi) (ds : List D) (M : Mm) (Q : QD) : Prop := match b, ds with
  | .len, [d] => match d with
    | .str z => z.length ≤ sizeLine ∧ Q (.int z.length) M
    | d => ∃ xs, seqD M d = some xs ∧ Q (.int xs.length) M
  | .abs, [.int i] => Q (.int (if i < 0 then -i else i)) M
  | .int, [.int i] => Q (.int i) M
  | .gcd, [.int a, .int b] => Q (.int ((Nat.gcd a.natAbs b.natAbs : Nat) : Int)) M
  | .isi, [x, t] => ∃ c, isiD M x t = some c ∧ Q (.bl c) M
  | .list, [d] => ∃ xs, seqD M d = some xs ∧ ∀ p, M p = none → Q (.ref p) (M.put p (.lst xs))
  | .tuple, [d] => ∃ xs, seqD M d = some xs ∧ Q (.tup xs) M
  | .max, [.int i, .int j] => Q (.int (if j > i then j else i)) M
  | .min, [.int i, .int j] => Q (.int (if j < i then j else i)) M
  | .sum, [d] => ∃ xs ns, seqD M d = some xs ∧ d matches .ref _ ∧ intsD xs = some ns ∧ Q (.int ns.sum) M
  | .any, [d] => ∃ xs bs, seqD M d = some xs ∧ d matches .ref _ ∧ blsD xs = some bs ∧ Q (.bl (bs.any id)) M
  | .all, [d] => ∃ xs bs, seqD M d = some xs ∧ d matches .ref _ ∧ blsD xs = some bs ∧ Q (.bl (bs.all id)) M
  | .str, [d] => match d with
    | .int i => i.natAbs.log2 < 1920 ∧ Q (.str (toString i)) M
    | .str z => Q (.str z) M
    | _ => False
  | .divmod, [.int i, .int j] => CDivP i j ∧ Q (.tup [.int (i / j), .int (i % j)]) M
  | _, _ => False
theorem intsD_eq {K : PySem.W.Frag} {H : Hp} : ∀ {ds : List D} {ns : List Int} {vs : List V}, intsD ds = some ns → Reps K H ds vs → vs = ns.map V.int
  | [], ns, vs, h, r => by cases r; simp only [intsD, Option.some.injEq] at h; subst h; rfl
  | d :: ds, ns, vs, h, r => by
    cases d <;> simp only [intsD] at h <;> try (cases h; done)
    rename_i i
    cases q : intsD ds with
    | none => rw [q] at h; cases h
    | some ms =>
      rw [q] at h; cases h
      cases r with
      | cons a b => cases a; rw [intsD_eq q b]; rfl
theorem blsD_eq {K : PySem.W.Frag} {H : Hp} : ∀ {ds : List D} {ns : List Bool} {vs : List V}, blsD ds = some ns → Reps K H ds vs → vs = ns.map V.bl
  | [], ns, vs, h, r => by cases r; simp only [blsD, Option.some.injEq] at h; subst h; rfl
  | d :: ds, ns, vs, h, r => by
    cases d <;> simp only [blsD] at h <;> try (cases h; done)
    rename_i i
    cases q : blsD ds with
    | none => rw [q] at h; cases h
    | some ms =>
      rw [q] at h; cases h
      cases r with
      | cons a b => cases a; rw [blsD_eq q b]; rfl
section
variable {X : Cx}
theorem tyX_of {K : PySem.W.Frag} {M : Mm} {H : Hp} {d : D} {v : V} {t : Ty} (m : RelM K M H) (r : Rep K H d v) (h : Ty.of M d = some t) : TyX K H v (.type t.nm) := by
  cases r with
  | non => cases h; exact .base .non
  | bl b => cases h; exact .base (.bl b)
  | int i => cases h; exact .base (.int i)
  | str x => cases h; exact .base (.str x)
  | ty n => cases h
  | tup s q =>
    cases h
    rcases s with (s | ⟨o, s⟩) | ⟨o, its, n, e, c, _⟩
    · exact .base (.tup s)
    · exact .fTuple s
    · exact .kTuple e c
  | ref a =>
    simp only [Ty.of] at h
    split at h
    · rename_i e; cases h; obtain ⟨vs, a1, _⟩ := m _ _ e; exact .base (.lst a1)
    · rename_i e; cases h; obtain ⟨vs, o, a1, _⟩ := m _ _ e; exact .base (.frz a1)
    · cases h
end
end DL
namespace DL
open PySem PySem.Spec L2
def Bi.val : Bi → Value
  | .len => .builtin "len" | .abs => .builtin "abs" | .int => .type "int" | .gcd => .builtin "math.gcd" | .isi => .builtin "isinstance" | .list => .type "list" | .tuple => .type "tuple"
  | .max => .builtin "max" | .min => .builtin "min" | .sum => .builtin "sum" | .any => .builtin "any" | .all => .builtin "all" | .str => .type "str" | .divmod => .builtin "divmod"
section
variable {X : Cx}
theorem ref_of_matches {d : D} (h : (d matches .ref _) = true) : ∃ a, d = .ref a := by
  cases d <;> first | (cases h; done) | exact ⟨_, rfl⟩
theorem sqL_of {K : PySem.W.Frag} {M : Mm} {H : Hp} {a : Addr} {xs : List D} (m : RelM K M H) (h : seqD M (.ref a) = some xs) : ∃ vs, SqL K H a vs ∧ Reps K H xs vs := by
  simp only [seqD] at h
  split at h
  · rename_i e; cases h; exact m.sq (.inl e)
  · rename_i e; cases h; exact m.sq (.inr e)
  · cases h
theorem bi_ok (hc : X.calm = true) (b : Bi) : CallR X b.val (liftC X.K (biD b)) := by
  intro pins s σ H vs us Q I r h
  obtain ⟨ds, M, Qd, m, rs, q, k⟩ := h
  have at_ : ∀ {d : D} {v : V}, Rep X.K H d v → Qd d M → Q v H := fun r q => k _ _ _ _ (TX.refl H) m r q
  cases b with
  | len =>
    match ds, q with
    | [d], q =>
      obtain ⟨v, rfl, r1⟩ := rs.one
      have main : (∃ xs, seqD M d = some xs ∧ Qd (.int xs.length) M) → wpAny (model X.prog X.w) X.A (call (Bi.val .len) us) (EP X pins σ Q) X.xe s := by
        rintro ⟨xs, hs, q⟩
        obtain ⟨a, ws, rfl, sq, r2⟩ := seqD_sq hs r1 m
        exact call_len_seq pins s σ H _ us Q I r ⟨a, ws, rfl, sq, by rw [← r2.length]; exact at_ (.int _) q⟩
      cases d with
      | str z => cases r1; exact call_len_str pins s σ H _ us Q I r ⟨z, rfl, q.1, at_ (.int _) q.2⟩
      | _ => exact main q
  | abs =>
    match ds, q with
    | [.int i], q =>
      obtain ⟨v, rfl, r1⟩ := rs.one
      cases r1
      exact call_abs pins s σ H _ us Q I r ⟨i, rfl, at_ (.int _) q⟩
  | int =>
    match ds, q with
    | [.int i], q =>
      obtain ⟨v, rfl, r1⟩ := rs.one
      cases r1
      exact call_int1 pins s σ H _ us Q I r (.inl ⟨i, rfl, at_ (.int _) q⟩)
  | gcd =>
    match ds, q with
    | [.int i, .int j], q =>
      obtain ⟨v, w, rfl, r1, r2⟩ := rs.two
      cases r1; cases r2
      exact cr_gcd pins s σ H _ us Q I r ⟨i, j, rfl, at_ (.int _) q⟩
  | isi =>
    match ds, q with
    | [x, t], q =>
      obtain ⟨c, hc', q⟩ := q
      obtain ⟨v, w, rfl, r1, r2⟩ := rs.two
      have fin : Q (.bl c) H := at_ (.bl c) q
      unfold isiD at hc'
      split at hc'
      · rename_i n
        cases r2
        split at hc'
        · rename_i ty hty
          have tx := tyX_of m r1 hty
          have go : ∀ u : Ty, n = u.nm → c = ty.sub u → wpAny (model X.prog X.w) X.A (call (Bi.val .isi) us) (EP X pins σ Q) X.xe s := fun u e1 e2 => by
            subst e1 e2
            exact call_isi pins s σ H _ us Q I r ⟨v, .ty u.nm, _, _, _, rfl, .ty _, tx, kit_ty (kit_sub ty u), fin⟩
          repeat' split at hc'
          · rename_i e; exact go .int e (Option.some.inj hc').symm
          · rename_i e; exact go .bool e (Option.some.inj hc').symm
          · rename_i e; exact go .tuple e (Option.some.inj hc').symm
          · rename_i e; exact go .list e (Option.some.inj hc').symm
          · rename_i e; exact go .str e (Option.some.inj hc').symm
          · cases hc'
        · cases hc'
      · split at hc'
        · rename_i ty hty
          have tx := tyX_of m r1 hty
          have e := Option.some.inj hc'
          obtain ⟨p, ws, rfl, s1, q1⟩ := r2.tup_inv
          obtain ⟨a, b, rfl, qa, qb⟩ := q1.two
          cases qa; cases qb
          have kk : PySem.W.kitAny X.K (.type ty.nm) [.type "list", .type "tuple"] = some c := by
            subst e
            refine kitAny_cons (kit_ty (kit_sub ty .list)) (fun e1 => ?_) fun e1 => by rw [e1]; rfl
            rw [e1, Bool.false_or]
            exact kitAny_cons (kit_ty (kit_sub ty .tuple)) (fun e2 => by rw [e2]; exact kitAny_nil) fun e2 => e2
          obtain ⟨u1, u2, rfl, rr1, rr2⟩ := vals2 r
          cases (show u2 = Value.ref p from rr2)
          obtain ⟨P, Z, pp, hx⟩ := kit_of I rr1 tx
          obtain ⟨its, rv, ⟨o, h1, h2, n, h3⟩, _⟩ := I.tuple s1
          have e3 := ClsV.all (.cons (.ty "list") (.cons (.ty "tuple") .nil)) rv
          subst e3
          obtain ⟨oc, od, dt, sl⟩ := o
          simp only at h2 h3
          subst h2 h3
          exact PySem.W.kia_tup Z I.kIn pp h1 kk hx fun tk => ⟨.bl c, H, I.tok tk, rfl, fin⟩
        · cases hc'
      · cases hc'
  | list =>
    match ds, q with
    | [d], q =>
      obtain ⟨xs, hs, q⟩ := q
      obtain ⟨v, rfl, r1⟩ := rs.one
      obtain ⟨a, ws, rfl, sq, r2⟩ := seqD_sq hs r1 m
      exact call_list_of pins s σ H _ us Q I r ⟨a, ws, rfl, sq, fun p hp => k _ _ _ _ (TX.new hp) (m.newL hp r2) (.ref p) (q p (m.free hp))⟩
  | tuple =>
    match ds, q with
    | [d], q =>
      obtain ⟨xs, hs, q⟩ := q
      obtain ⟨v, rfl, r1⟩ := rs.one
      obtain ⟨a, ws, rfl, sq, r2⟩ := seqD_sq hs r1 m
      refine call_tuple_of pins s σ H _ us Q I r ⟨a, ws, rfl, ?_⟩
      rcases sq with sq | sq
      · exact .inl ⟨sq, fun p hp => k _ _ _ _ (TX.new hp) (m.new hp) (.tup (SqT.of upd_same) (r2.mono (TX.new hp))) q⟩
      · exact .inr ⟨sq, at_ (.tup sq r2) q⟩
  | max =>
    match ds, q with
    | [.int i, .int j], q =>
      obtain ⟨v, w, rfl, r1, r2⟩ := rs.two
      cases r1; cases r2
      exact call_max2 hc pins s σ H _ us Q I r ⟨i, j, rfl, at_ (.int _) q⟩
  | min =>
    match ds, q with
    | [.int i, .int j], q =>
      obtain ⟨v, w, rfl, r1, r2⟩ := rs.two
      cases r1; cases r2
      exact call_min2 hc pins s σ H _ us Q I r ⟨i, j, rfl, at_ (.int _) q⟩
  | sum =>
    match ds, q with
    | [d], q =>
      obtain ⟨xs, ns, hs, hm, hi, q⟩ := q
      obtain ⟨a, rfl⟩ := ref_of_matches hm
      obtain ⟨v, rfl, r1⟩ := rs.one
      cases r1
      obtain ⟨ws, sq, r2⟩ := sqL_of m hs
      have e := intsD_eq hi r2
      subst e
      exact cr_sum hc pins s σ H _ us Q I r ⟨a, ns, rfl, sq, at_ (.int _) q⟩
  | any =>
    match ds, q with
    | [d], q =>
      obtain ⟨xs, ns, hs, hm, hi, q⟩ := q
      obtain ⟨a, rfl⟩ := ref_of_matches hm
      obtain ⟨v, rfl, r1⟩ := rs.one
      cases r1
      obtain ⟨ws, sq, r2⟩ := sqL_of m hs
      have e := blsD_eq hi r2
      subst e
      exact cr_any hc pins s σ H _ us Q I r ⟨a, ns, rfl, sq, at_ (.bl _) q⟩
  | all =>
    match ds, q with
    | [d], q =>
      obtain ⟨xs, ns, hs, hm, hi, q⟩ := q
      obtain ⟨a, rfl⟩ := ref_of_matches hm
      obtain ⟨v, rfl, r1⟩ := rs.one
      cases r1
      obtain ⟨ws, sq, r2⟩ := sqL_of m hs
      have e := blsD_eq hi r2
      subst e
      exact cr_all hc pins s σ H _ us Q I r ⟨a, ns, rfl, sq, at_ (.bl _) q⟩
  | str =>
    match ds, q with
    | [d], q =>
      obtain ⟨v, rfl, r1⟩ := rs.one
      cases d <;> try (exact q.elim)
      · cases r1; exact call_str_int pins s σ H _ us Q I r ⟨_, rfl, q.1, at_ (.str _) q.2⟩
      · cases r1; exact SkE.call_str_str pins s σ H _ us Q I r ⟨_, rfl, at_ (.str _) q⟩
  | divmod =>
    match ds, q with
    | [.int i, .int j], q =>
      obtain ⟨v, w, rfl, r1, r2⟩ := rs.two
      cases r1; cases r2
      exact call_divmodW pins s σ H _ us Q I r ⟨i, j, rfl, q.1, fun p hp => k _ _ _ _ (TX.new hp) (m.new hp) (.tup (.inl (.inl upd_same)) (.cons (.int _) (.cons (.int _) .nil))) q.2⟩
end
end DL
namespace DL
open PySem PySem.Spec L2

/-! ### programs as data: slots for names, numbers for the module's names -/
inductive Me where
  | append | pop
  deriving DecidableEq
/-- methods of texts -/
inductive Sme where
  | join | zfill
  deriving DecidableEq
mutual
inductive Tg where
  | nm (i : Nat)
  | tup (ts : Tgs)
inductive Tgs where
  | nil
  | cons (t : Tg) (ts : Tgs)
end
mutual
inductive Ex where
  | var (i : Nat) | int (i : Int) | bl (b : Bool) | non | str (x : Str) | gl (g : Nat)
  | op (o : Operator) (a b : Ex) | neg (a : Ex)
  | cmp (o : CmpOp) (a b : Ex) | chn (o1 o2 : CmpOp) (a b c : Ex)
  | bop (o : BoolOp) (es : Exs) | not (a : Ex) | ite (c : Te) (a b : Ex)
  | tup (es : Exs) | lst (es : Exs)
  | ix (a b : Ex) | slc (a : Ex) (lo hi : Exo)
  | call (g : Nat) (es : Exs) | bi (b : Bi) (es : Exs) | mth (m : Me) (a : Ex) (es : Exs)
  | fld (a : Ex) (f : Str)
  | lc (own : List Nat) (tg : Tg) (it : Si) (c : Teo) (e : Ex)
  | xfl (a : Ex) (f : Str) | xis (a : Ex) (g : Nat)
  | tyn (t : Ty) | rev (a : Ex) | fmt (a : Ex) | fst (es : Exs) | callk (g : Nat) (es : Exs) (ks : List Str) (zs : Exs) | smt (m : Sme) (a e : Ex)
  | mk (g : Nat) (es : Exs) | mkk (g : Nat) (es : Exs) (ks : List Str) (zs : Exs) | mc (g : Nat) (a : Ex) (m : Str) (es : Exs) | prp (g : Nat) (a : Ex) (f : Str) | lno (g : Nat) (a : Ex) | iso (a : Ex) (g : Nat) | oeq (g : Nat) (a b : Ex)
inductive Te where
  | val (e : Ex) | oeq (g : Nat) (a b : Ex) | cmp (o : CmpOp) (a b : Ex) | chn (o1 o2 : CmpOp) (a b c : Ex)
  | bop (o : BoolOp) (ts : Tes) | not (t : Te)
inductive Tes where
  | nil
  | cons (t : Te) (ts : Tes)
inductive Teo where
  | none
  | some (t : Te)
inductive Exs where
  | nil
  | cons (e : Ex) (es : Exs)
inductive Exo where
  | none
  | some (e : Ex)
inductive Si where
  | seq (e : Ex) | rng1 (a : Ex) | rng2 (a b : Ex) | rng3 (a b c : Ex) | enm (a : Ex) | zip (a b : Ex)
end
def Exs.len : Exs → Nat
  | .nil => 0
  | .cons _ es => es.len + 1

/-- what the module's names stand for -/
inductive GV where
  | fn (n : Nat) (sp : DSp) (dfl : List D)
  | val (d : D)
  | err (C : Addr) (fs : List Str) (tx : List Nat)
  | cls (C : Addr)
  | cla (C : Addr) (i : Option (Nat × DSp × List D))
def GV.clsOf : GV → Option Addr
  | .err C _ _ => some C
  | .cls C => some C
  | _ => none
/-- an own class -/
def GV.insOf : GV → Option Addr
  | .cla C _ => some C
  | _ => none
structure Gm where
  gv : Nat → GV
  fld : Addr → Str → Prop
  sub : Addr → Addr → Option Bool := fun _ _ => none
  xfl : Addr → Str → Prop := fun _ _ => False
  exn : Option (Addr × Addr × Option Addr) := none
  kwc : Nat → Nat → List Str → Option (List (Sum Nat D)) := fun _ _ _ => none
  mt : Nat → Str → Option (Nat × DSp × List D) := fun _ _ => none
  pr : Nat → Str → Option DSp := fun _ _ => none
  isi : Sum String Addr → Addr → Option Bool := fun _ _ => none
  nf : Sum String Addr → Addr → Bool := fun _ _ => false

def callD (g : GV) (k : Nat) (ds : List D) (M : Mm) (E : EK) (Q : QD) : Prop := match g with
  | .fn n sp dfl => k ≤ n ∧ n - k ≤ dfl.length ∧ ds.length = k ∧ sp (ds ++ dfl.drop (dfl.length - (n - k))) M E Q
  | _ => False
def isL (M : Mm) : D → Prop
  | .ref a => ∃ xs, M a = some (.lst xs) ∨ M a = some (.rol xs)
  | _ => False
def mthD (m : Me) (d : D) (ds : List D) (M : Mm) (Q : QD) : Prop := match m, d, ds with
  | .append, .ref a, [x] => ∃ xs, M a = some (.lst xs) ∧ xs.length < sizeLine ∧ Q .non (M.put a (.lst (xs ++ [x])))
  | .pop, .ref a, [] => ∃ xs x, M a = some (.lst (xs ++ [x])) ∧ Q x (M.put a (.lst xs))
  | _, _, _ => False
def wipeD (ρ : DEnv) : List Nat → DEnv
  | [] => ρ
  | v :: vs => (wipeD ρ vs).set v none
mutual
def tgD (tg : Tg) (d : D) (ρ : DEnv) (Q : DEnv → Prop) : Prop := match tg with
  | .nm i => Q (ρ.set i (some d))
  | .tup ts => match d with
    | .tup ds => tgsD ts ds ρ Q
    | _ => False
def tgsD (ts : Tgs) (ds : List D) (ρ : DEnv) (Q : DEnv → Prop) : Prop := match ts, ds with
  | .nil, [] => Q ρ
  | .cons t ts, d :: ds => tgD t d ρ fun ρ' => tgsD ts ds ρ' Q
  | _, _ => False
end
/-- a list grown item by item -/
def compL (G : Mm → Prop) (p : Addr) (step : D → Mm → (Option D → Mm → Prop) → Prop) : List D → List D → Mm → (Mm → Prop) → Prop
  | [], acc, M, Q => G M ∧ M p = some (.lst acc) ∧ Q M
  | d :: ds, acc, M, Q => G M ∧ step d M fun r M' => match r with
    | none => compL G p step ds acc M' Q
    | some x => M' p = some (.lst acc) ∧ acc.length < sizeLine ∧ compL G p step ds (acc ++ [x]) (M'.put p (.lst (acc ++ [x]))) Q
def seqI (d : D) (M : Mm) (Q : List D → (Mm → Prop) → Mm → Prop) : Prop := match d with
  | .tup ds => Q ds (fun _ => True) M
  | .ref a => ∃ ds, (M a = some (.lst ds) ∨ M a = some (.rol ds)) ∧ Q ds (fun M => M a = some (.lst ds) ∨ M a = some (.rol ds)) M
  | _ => False
def sml (i : Int) : Prop := -(2 ^ 62) ≤ i ∧ i < 2 ^ 62
def enmD : Nat → List D → List D
  | _, [] => []
  | i, d :: ds => .tup [.int i, d] :: enmD (i + 1) ds
def zipD : List D → List D → List D
  | d :: ds, e :: es => .tup [d, e] :: zipD ds es
  | _, _ => []
def rngD (lo : Int) (n : Nat) : List D := (List.range n).map fun i => D.int (lo + (i : Nat))
def patD (pat : List (Sum Nat D)) (ds es : List D) : List D := pat.map fun
  | .inl i => (ds ++ es).getD i .non
  | .inr d => d
/-- a call by keywords -/
def kwD (Γ : Gm) (g np : Nat) (ks : List Str) (ds ws : List D) (M : Mm) (E : EK) (Q : QD) : Prop := match Γ.gv g, Γ.kwc g np ks with
  | .fn _ sp _, some pat => ds.length = np ∧ ws.length = ks.length ∧ sp (patD pat ds ws) M E Q
  | _, _ => False
def rngC (lo c : Int) (n : Nat) : List D := (List.range n).map fun (i : Nat) => D.int (lo + (i : Nat) * c)
def strsD : List D → Option (List Str)
  | [] => some []
  | .str y :: r => (strsD r).map (y :: ·)
  | _ => none
def fmtD (x : D) (M : Mm) (Q : QD) : Prop := match x with
  | .str y => y.length ≤ sizeLine ∧ Q (.str y) M
  | .int i => i.natAbs.log2 < 1920 ∧ Q (.str (toString i)) M
  | _ => False
def smtD (m : Sme) (x y : D) (M : Mm) (Q : QD) : Prop := match m, x with
  | .join, .str a => ∃ ds ys, seqD M y = some ds ∧ strsD ds = some ys ∧ (ys.map (·.length)).sum + ys.length * a.length ≤ 16777216 ∧ Q (.str (Txt.join a ys)) M
  | .zfill, .str a => ∃ i, y = .int i ∧ PadOk i = true ∧ Q (.str (Txt.zfill a i)) M
  | _, _ => False
def revD (x : D) (M : Mm) (Q : QD) : Prop := match x with
  | .ref p => ∃ ds, (M p = some (.lst ds) ∨ M p = some (.rol ds)) ∧ ∀ q, M q = none → Q (.ref q) (M.put q (.lst ds.reverse))
  | _ => False
def isLst (M : Mm) (d : D) (Q : List D → (Mm → Prop) → Prop) : Prop := match d with
  | .ref a => ∃ ds, (M a = some (.lst ds) ∨ M a = some (.rol ds)) ∧ Q ds (fun M => M a = some (.lst ds) ∨ M a = some (.rol ds))
  | _ => False
/-- isinstance(e, C) in a suite -/
def xisD (Γ : Gm) (g : Nat) (x : D) (M1 : Mm) (Q : QD) : Prop := match Γ.exn, x, (Γ.gv g).clsOf with
  | some (p, C, dx), .ref b, some C' => b = p ∧ (∀ dd, dx = some dd → ∃ fs, M1 dd = some (.exd fs)) ∧ ∃ k, Γ.sub C C' = some k ∧ Q (.bl k) M1
  | _, _, _ => False
def isCla (k : Nat) : GV → Prop
  | .cla _ (some (n, _, dfl)) => n - k ≤ dfl.length
  | _ => False
def isIns : GV → Prop
  | .cla _ (some _) => True
  | _ => False
def mtN (Γ : Gm) (g : Nat) (m : Str) (k : Nat) : Prop := match Γ.mt g m with
  | some (n, _, dfl) => n - k ≤ dfl.length
  | none => False
/-- a new instance of an own class -/
def mkD (g : GV) (k : Nat) (ds : List D) (M : Mm) (E : EK) (Q : QD) : Prop := match g with
  | .cla C (some (n, sp, dfl)) => k ≤ n ∧ n - k ≤ dfl.length ∧ ds.length = k ∧ ∀ p, M p = none → sp (.ref p :: (ds ++ dfl.drop (dfl.length - (n - k)))) (M.put p (.ins C [])) E fun d M' => d = .non ∧ Q (.ref p) M'
  | _ => False
/-- the same by keywords -/
def mkkD (Γ : Gm) (g np : Nat) (ks : List Str) (ds ws : List D) (M : Mm) (E : EK) (Q : QD) : Prop := match Γ.gv g, Γ.kwc g np ks with
  | .cla C (some (_, sp, _)), some pat => ds.length = np ∧ ws.length = ks.length ∧ ∀ p, M p = none → sp (.ref p :: patD pat ds ws) (M.put p (.ins C [])) E fun d M' => d = .non ∧ Q (.ref p) M'
  | _, _ => False
/-- a method's call -/
def mcD (Γ : Gm) (g : Nat) (m : Str) (x : D) (k : Nat) (ds : List D) (M : Mm) (E : EK) (Q : QD) : Prop := match Γ.mt g m with
  | some (n, sp, dfl) => k ≤ n ∧ n - k ≤ dfl.length ∧ ds.length = k ∧ sp (x :: (ds ++ dfl.drop (dfl.length - (n - k)))) M E Q
  | none => False
/-- a property's value -/
def prD (Γ : Gm) (g : Nat) (f : Str) (x : D) (M : Mm) (Q : QD) : Prop := match Γ.pr g f with
  | some sp => sp [x] M (fun _ _ => False) Q
  | none => False
def InsD (M : Mm) (C : Addr) (x : D) : Prop := ∃ p fs, x = .ref p ∧ M p = some (.ins C fs)
def InsM (M : Mm) (C : Addr) (m : Str) (x : D) : Prop := ∃ p fs, x = .ref p ∧ M p = some (.ins C fs) ∧ fs.lookup m = none
def tyD (M : Mm) : D → Option (Sum String Addr)
  | .non => some (.inl "NoneType")
  | .bl _ => some (.inl "bool")
  | .int _ => some (.inl "int")
  | .str _ => some (.inl "str")
  | .tup _ => some (.inl "tuple")
  | .ref a => match M a with
    | some (.lst _) => some (.inl "list")
    | some (.rol _) => some (.inl "list")
    | some (.ins C _) => some (.inr C)
    | _ => none
  | .ty _ => none
/-- isinstance of an own class -/
def isoD (Γ : Gm) (C : Addr) (x : D) (M : Mm) (Q : QD) : Prop := match tyD M x with
  | some t => match Γ.isi t C with
    | some b => Q (.bl b) M
    | none => False
  | none => False
def E0 : EK := fun _ _ => False
def TTrue : TDt := fun _ M _ Q => Q true M
mutual
def evE (Γ : Gm) : Ex → TD
  | .var i => fun ρ M _ Q => match ρ[i]? with
    | some (some d) => Q d M
    | _ => False
  | .int i => fun _ M _ Q => Q (.int i) M
  | .bl b => fun _ M _ Q => Q (.bl b) M
  | .non => fun _ M _ Q => Q .non M
  | .str x => fun _ M _ Q => Q (.str x) M
  | .gl g => fun _ M _ Q => match Γ.gv g with
    | .val d => Q d M
    | _ => False
  | .op o a b => fun ρ M E Q => evE Γ a ρ M E fun x M1 => evE Γ b ρ M1 E fun y M2 => opD o x y M2 Q
  | .neg a => fun ρ M E Q => evE Γ a ρ M E fun x M1 => match x with
    | .int i => Q (.int (-i)) M1
    | _ => False
  | .cmp o a b => fun ρ M E Q => evE Γ a ρ M E fun x M1 => evE Γ b ρ M1 E fun y M2 => ∃ c, cmpD M2 o x y = some c ∧ Q (.bl c) M2
  | .chn o1 o2 a b c => fun ρ M E Q => evE Γ a ρ M E fun x M1 => evE Γ b ρ M1 E fun y M2 => ∃ k, cmpD M2 o1 x y = some k ∧
      if k = true then evE Γ c ρ M2 E (fun z M3 => ∃ k', cmpD M3 o2 y z = some k' ∧ Q (.bl k') M3) else Q (.bl false) M2
  | .bop o es => evB Γ o es
  | .not a => fun ρ M E Q => evE Γ a ρ M E fun x M1 => match x with
    | .bl c => Q (.bl (!c)) M1
    | _ => False
  | .ite c a b => fun ρ M E Q => evT Γ c ρ M E fun k M1 => if k = true then evE Γ a ρ M1 E Q else evE Γ b ρ M1 E Q
  | .tup es => fun ρ M E Q => evEs Γ es ρ M E fun ds M1 => ds.length ≤ sizeLine ∧ Q (.tup ds) M1
  | .lst es => fun ρ M E Q => evEs Γ es ρ M E fun ds M1 => ds.length ≤ sizeLine ∧ ∀ p, M1 p = none → Q (.ref p) (M1.put p (.lst ds))
  | .ix a b => fun ρ M E Q => evE Γ a ρ M E fun x M1 => evE Γ b ρ M1 E fun y M2 => ixD x y M2 Q
  | .slc a lo hi => fun ρ M E Q => evE Γ a ρ M E fun x M1 => evO Γ lo ρ M1 E fun l M2 => evO Γ hi ρ M2 E fun h M3 => slcD x l h M3 Q
  | .call g es => fun ρ M E Q => evEs Γ es ρ M E fun ds M1 => callD (Γ.gv g) es.len ds M1 E Q
  | .bi b es => fun ρ M E Q => evEs Γ es ρ M E fun ds M1 => biD b ds M1 Q
  | .mth m a es => fun ρ M E Q => evE Γ a ρ M E fun x M1 => isL M1 x ∧ evEs Γ es ρ M1 E fun ds M2 => mthD m x ds M2 Q
  | .fld a f => fun ρ M E Q => evE Γ a ρ M E fun x M1 => match x with
    | .ref p => ∃ C fs d, M1 p = some (.ins C fs) ∧ Γ.fld C f ∧ fs.lookup f = some d ∧ Q d M1
    | _ => False
  | .lc own tg it c e => fun ρ M E Q => evI Γ it ρ M E fun items G M1 => ∀ p, M1 p = none →
      compL G p (fun d M2 K => tgD tg d (wipeD ρ own) fun ρ2 => evC Γ c ρ2 M2 E0 fun b M3 => if b = true then evE Γ e ρ2 M3 E0 (fun x M4 => K (some x) M4) else K none M3)
        items [] (M1.put p (.lst [])) fun M5 => Q (.ref p) M5
  | .xfl a f => fun ρ M E Q => evE Γ a ρ M E fun x M1 => match Γ.exn, x with
    | some (p, C, some dd), .ref b => b = p ∧ Γ.xfl C f ∧ ∃ fs d, M1 dd = some (.exd fs) ∧ fs.lookup f = some d ∧ Q d M1
    | _, _ => False
  | .xis a g => fun ρ M E Q => evE Γ a ρ M E fun x M1 => xisD Γ g x M1 Q
  | .tyn t => fun _ M _ Q => Q (.ty t.nm) M
  | .callk g es ks zs => fun ρ M E Q => (Γ.kwc g es.len ks).isSome = true ∧ evEs Γ es ρ M E fun ds M1 => evEs Γ zs ρ M1 E fun ws M2 => kwD Γ g es.len ks ds ws M2 E Q
  | .rev a => fun ρ M E Q => evE Γ a ρ M E fun x M1 => revD x M1 Q
  | .mk g es => fun ρ M E Q => isCla es.len (Γ.gv g) ∧ evEs Γ es ρ M E fun ds M1 => mkD (Γ.gv g) es.len ds M1 E Q
  | .mkk g es ks zs => fun ρ M E Q => isIns (Γ.gv g) ∧ (Γ.kwc g es.len ks).isSome = true ∧ evEs Γ es ρ M E fun ds M1 => evEs Γ zs ρ M1 E fun ws M2 => mkkD Γ g es.len ks ds ws M2 E Q
  | .mc g a m es => fun ρ M E Q => match (Γ.gv g).insOf with
    | some C => mtN Γ g m es.len ∧ evE Γ a ρ M E fun x M1 => InsM M1 C m x ∧ evEs Γ es ρ M1 E fun ds M2 => mcD Γ g m x es.len ds M2 E Q
    | none => False
  | .prp g a f => fun ρ M E Q => match (Γ.gv g).insOf with
    | some C => (Γ.pr g f).isSome = true ∧ evE Γ a ρ M E fun x M1 => InsD M1 C x ∧ prD Γ g f x M1 Q
    | none => False
  | .lno g a => fun ρ M E Q => match (Γ.gv g).insOf with
    | some C => mtN Γ g "__len__" 0 ∧ evE Γ a ρ M E fun x M1 => InsD M1 C x ∧ mcD Γ g "__len__" x 0 [] M1 (fun _ _ => False) fun d M2 => ∃ i : Int, d = .int i ∧ 0 ≤ i ∧ i < 2 ^ 63 ∧ Q (.int i) M2
    | none => False
  | .iso a g => fun ρ M E Q => match (Γ.gv g).insOf with
    | some C => evE Γ a ρ M E fun x M1 => isoD Γ C x M1 Q
    | none => False
  | .oeq g a b => fun ρ M E Q => match (Γ.gv g).insOf with
    | some C => mtN Γ g "__eq__" 1 ∧ evE Γ a ρ M E fun x M1 => evE Γ b ρ M1 E fun y M2 => InsD M2 C x ∧ (∃ t, tyD M2 y = some t ∧ Γ.nf t C = true) ∧ mcD Γ g "__eq__" x 1 [y] M2 (fun _ _ => False) fun d M3 => ∃ c, d = .bl c ∧ Q (.bl c) M3
    | none => False
  | .fmt a => fun ρ M E Q => evE Γ a ρ M E fun x M1 => fmtD x M1 Q
  | .fst es => fun ρ M E Q => evJ Γ es Str.empty ρ M E fun out M1 => Q (.str out) M1
  | .smt m a e => fun ρ M E Q => evE Γ a ρ M E fun x M1 => (∃ z, x = .str z) ∧ evE Γ e ρ M1 E fun y M2 => smtD m x y M2 Q
/-- the parts of a text -/
def evJ (Γ : Gm) : Exs → Str → DEnv → Mm → EK → (Str → Mm → Prop) → Prop
  | .nil => fun acc _ M _ Q => Q acc M
  | .cons e es => fun acc ρ M E Q => evE Γ e ρ M E fun d M1 => ∃ y, d = .str y ∧ (acc ++ y).length ≤ sizeLine ∧ evJ Γ es (acc ++ y) ρ M1 E Q
def evEs (Γ : Gm) : Exs → TDs
  | .nil => fun _ M _ Q => Q [] M
  | .cons e es => fun ρ M E Q => evE Γ e ρ M E fun d M1 => evEs Γ es ρ M1 E fun ds M2 => Q (d :: ds) M2
def evO (Γ : Gm) : Exo → DEnv → Mm → EK → (Option Int → Mm → Prop) → Prop
  | .none => fun _ M _ Q => Q none M
  | .some e => fun ρ M E Q => evE Γ e ρ M E fun d M1 => match d with
    | .int i => Q (some i) M1
    | _ => False
def evC (Γ : Gm) : Teo → TDt
  | .none => fun _ M _ Q => Q true M
  | .some t => evT Γ t
/-- and, or, as values -/
def evB (Γ : Gm) (o : BoolOp) : Exs → TD
  | .nil => fun _ _ _ _ => False
  | .cons e es => fun ρ M E Q => match es with
    | .nil => evE Γ e ρ M E Q
    | _ => evE Γ e ρ M E fun x M1 => match x, o with
      | .bl true, .And => evB Γ o es ρ M1 E Q
      | .bl false, .And => Q (.bl false) M1
      | .bl true, .Or => Q (.bl true) M1
      | .bl false, .Or => evB Γ o es ρ M1 E Q
      | _, _ => False
/-- as a test -/
def evT (Γ : Gm) : Te → TDt
  | .val e => fun ρ M E Q => evE Γ e ρ M E fun d M1 => ∃ k, truD M1 d = some k ∧ Q k M1
  | .bop o ts => evBT Γ o ts
  | .oeq g a b => fun ρ M E Q => match (Γ.gv g).insOf with
    | some C => mtN Γ g "__eq__" 1 ∧ evE Γ a ρ M E fun x M1 => evE Γ b ρ M1 E fun y M2 => InsD M2 C x ∧ (∃ t, tyD M2 y = some t ∧ Γ.nf t C = true) ∧ mcD Γ g "__eq__" x 1 [y] M2 (fun _ _ => False) fun d M3 => ∃ c, d = .bl c ∧ Q c M3
    | none => False
  | .not a => fun ρ M E Q => evT Γ a ρ M E fun k M1 => Q (!k) M1
  | .cmp o a b => fun ρ M E Q => evE Γ a ρ M E fun x M1 => evE Γ b ρ M1 E fun y M2 => ∃ c, cmpD M2 o x y = some c ∧ Q c M2
  | .chn o1 o2 a b c => fun ρ M E Q => evE Γ a ρ M E fun x M1 => evE Γ b ρ M1 E fun y M2 => ∃ k, cmpD M2 o1 x y = some k ∧
      if k = true then evE Γ c ρ M2 E (fun z M3 => ∃ k', cmpD M3 o2 y z = some k' ∧ Q k' M3) else Q false M2
def evBT (Γ : Gm) (o : BoolOp) : Tes → TDt
  | .nil => fun _ _ _ _ => False
  | .cons t ts => fun ρ M E Q => match ts with
    | .nil => evT Γ t ρ M E Q
    | _ => evT Γ t ρ M E fun k M1 => match k, o with
      | true, .And => evBT Γ o ts ρ M1 E Q
      | false, .And => Q false M1
      | true, .Or => Q true M1
      | false, .Or => evBT Γ o ts ρ M1 E Q
def evI (Γ : Gm) : Si → DEnv → Mm → EK → (List D → (Mm → Prop) → Mm → Prop) → Prop
  | .seq e => fun ρ M E Q => evE Γ e ρ M E fun d M1 => seqI d M1 Q
  | .rng1 a => fun ρ M E Q => evE Γ a ρ M E fun d M1 => match d with
    | .int j => sml j ∧ Q (rngD 0 j.toNat) (fun _ => True) M1
    | _ => False
  | .rng2 a b => fun ρ M E Q => evE Γ a ρ M E fun d M1 => evE Γ b ρ M1 E fun e M2 => match d, e with
    | .int i, .int j => sml i ∧ sml j ∧ Q (rngD i (j - i).toNat) (fun _ => True) M2
    | _, _ => False
  | .rng3 a b c => fun ρ M E Q => evE Γ a ρ M E fun d M1 => evE Γ b ρ M1 E fun e M2 => evE Γ c ρ M2 E fun f M3 => match d, e, f with
    | .int i, .int j, .int k => ∃ n, RgC i j k n ∧ Q (rngC i k n) (fun _ => True) M3
    | _, _, _ => False
  | .enm a => fun ρ M E Q => evE Γ a ρ M E fun d M1 => seqI d M1 fun ds G M2 => Q (enmD 0 ds) G M2
  | .zip a b => fun ρ M E Q => evE Γ a ρ M E fun d M1 => evE Γ b ρ M1 E fun e M2 => seqI d M2 fun ds G M3 => seqI e M3 fun es G' M4 => Q (zipD ds es) (fun M => G M ∧ G' M) M4
end
end DL
namespace DL
open PySem PySem.Spec L2

/-! ### does a program as data stand for the text? -/
mutual
def Tg.ss : Tg → List Nat
  | .nm i => [i]
  | .tup ts => ts.ss
def Tgs.ss : Tgs → List Nat
  | .nil => []
  | .cons t ts => t.ss ++ ts.ss
end
structure Tb where
  N : List Str
  sc : Scope
  gn : List (Str × Option (Nat × Nat))
  xn : List Str
  gcd : Bool
  fn : Bool
  calm : Bool := true
def Tb.vis (T : Tb) (x : Str) : Bool := match T.sc.names.lookup x with
  | some .local => true
  | some .cell => true
  | some .free => true
  | _ => false
def Tb.loc (T : Tb) (x : Str) : Bool := match T.sc.names.lookup x with
  | some .local => true
  | some .cell => T.fn
  | _ => false
def Tb.glo (T : Tb) (x : Str) : Bool := match T.sc.names.lookup x with
  | some .globalImplicit => true
  | _ => false
def plainN (x : Str) : Bool := !(x == ("__debug__" : Str)) && !(x == ("__classdict__" : Str)) && !(x == ("__name__" : Str))
def Tb.blk (T : Tb) (scope : Scope) : Tb := { T with sc := relS scope T.sc, fn := false }
def Tb.own (T : Tb) (own : List Nat) : List (Str × Nat) := own.map fun i => (T.N.getD i "", i)
mutual
def chkTg (T : Tb) : Tg → Expr → Bool
  | .nm i, .Name x _ => decide (T.N[i]? = some x) && T.loc x
  | .tup ts, .Tuple es _ _ => T.calm && chkTgs T ts es
  | _, _ => false
def chkTgs (T : Tb) : Tgs → List Expr → Bool
  | .nil, [] => true
  | .cons t ts, e :: es => chkTg T t e && chkTgs T ts es
  | _, _ => false
end
def isTup : Expr → Bool
  | .Tuple _ _ _ => true
  | _ => false
mutual
def chkE (T : Tb) : Ex → Expr → Bool
  | .var i, .Name x _ => decide (T.N[i]? = some x) && T.vis x && plainN x
  | .int i, .Constant (.int j) _ _ => decide (i = j)
  | .bl i, .Constant (.bool j) _ _ => decide (i = j)
  | .non, .Constant .none _ _ => true
  | .str x, .Constant (.str y) _ _ => decide (x = y)
  | .gl g, .Name x _ => decide (T.gn[g]? = some (x, none)) && T.glo x && plainN x
  | .op o a b, .BinOp a' o' b' _ => decide (o = o') && chkE T a a' && chkE T b b'
  | .neg a, .UnaryOp .USub a' _ => chkE T a a'
  | .cmp o a b, .Compare a' [o'] [b'] _ => decide (o = o') && !behindInMarks o' b' && chkE T a a' && chkE T b b'
  | .chn o1 o2 a b c, .Compare a' [o1', o2'] [b', c'] _ => decide (o1 = o1') && decide (o2 = o2') && !lastMarks [o1', o2'] [b', c'] && chkE T a a' && chkE T b b' && chkE T c c'
  | .bop o es, .BoolOp o' vs _ => decide (o = o') && !vs.isEmpty && chkEs T es vs
  | .not a, .UnaryOp .Not a' _ => chkE T a a'
  | .ite c a b, .IfExp c' a' b' _ => chkT T c c' && chkE T a a' && chkE T b b'
  | .tup es, .Tuple vs _ _ => chkEs T es vs
  | .lst es, .List vs _ => chkEs T es vs
  | .ix a b, .Subscript a' b' _ => chkE T a a' && chkE T b b'
  | .slc a lo hi, .Subscript a' (.Slice lo' hi' none _) _ => chkE T a a' && chkO T lo lo' && chkO T hi hi'
  | .call g es, .Call (.Name x _) vs [] _ => T.calm && (match T.gn[g]? with
      | some (y, some (n, k)) => decide (x = y) && decide (es.len ≤ n) && decide (n - es.len ≤ k)
      | _ => false) && T.glo x && plainN x && !vs.isEmpty && chkEs T es vs
  | .bi b es, .Call (.Name x _) vs [] _ => T.calm && decide (b.name = x) && (if b = .gcd then T.gcd else T.xn.contains x) && T.glo x && !vs.isEmpty && chkEs T es vs
  | .mth .append a es, .Call (.Attribute a' m ap) [v] [] cp => decide (m = ("append" : Str)) && (ap.endLine == cp.line) && chkE T a a' && chkEs T es [v]
  | .mth .pop a es, .Call (.Attribute a' m ap) [] [] cp => decide (m = ("pop" : Str)) && (ap.endLine == cp.line) && chkE T a a' && chkEs T es []
  | .fld a f, .Attribute a' f' _ => decide (f = f') && chkE T a a'
  | .lc own tg it c e, .ListComp e' [⟨tg', it', ifs, asy⟩] scope _ => T.calm && decide (asy = 0) && blkC T.N T.sc scope (T.own own) && tg.ss.all (fun i => own.contains i) && chkTg (T.blk scope) tg tg' && chkI T (isTup tg') it it' && chkC (T.blk scope) c ifs && chkE (T.blk scope) e e'
  | .callk g es ks zs, .Call (.Name x _) vs kws _ => T.calm && (match T.gn[g]? with
      | some (y, some _) => decide (x = y)
      | _ => false) && T.glo x && plainN x && !kws.isEmpty && decide (kws.map (·.arg) = ks.map some) && chkEs T es vs && chkEs T zs (kws.map (·.value))
  | .mk g es, .Call (.Name x _) vs [] _ => T.calm && !decide (x = ("super" : Str)) && decide (T.gn[g]? = some (x, none)) && T.glo x && plainN x && chkEs T es vs
  | .mkk g es ks zs, .Call (.Name x _) vs kws _ => T.calm && decide (T.gn[g]? = some (x, none)) && T.glo x && plainN x && !vs.isEmpty && !kws.isEmpty && decide (kws.map (·.arg) = ks.map some) && chkEs T es vs && chkEs T zs (kws.map (·.value))
  | .mc g a m es, .Call (.Attribute a' m' ap) vs [] cp => T.calm && decide (m = m') && (ap.endLine == cp.line) && decide (vs.length < 30) && (T.gn[g]?).isSome && chkE T a a' && chkEs T es vs
  | .prp g a f, .Attribute a' f' _ => T.calm && decide (f = f') && (T.gn[g]?).isSome && chkE T a a'
  | .lno g a, .Call (.Name x _) [a'] [] _ => T.calm && decide (x = ("len" : Str)) && T.xn.contains x && T.glo x && (T.gn[g]?).isSome && chkE T a a'
  | .iso a g, .Call (.Name x _) [a', .Name y _] [] _ => T.calm && decide (x = ("isinstance" : Str)) && T.xn.contains x && T.glo x && decide (T.gn[g]? = some (y, none)) && T.glo y && plainN y && chkE T a a'
  | .oeq g a b, .Compare a' [.Eq] [b'] _ => T.calm && !behindInMarks .Eq b' && (T.gn[g]?).isSome && chkE T a a' && chkE T b b'
  | .tyn t, .Name x _ => decide (t ≠ .none) && decide (x = Str.ofString t.nm) && T.xn.contains x && T.glo x
  | .rev a, .Subscript a' (.Slice none none (some (.UnaryOp .USub (.Constant (.int k) _ _) _)) _) _ => decide (k = 1) && chkE T a a'
  | .fmt a, .FormattedValue a' c none _ => decide (c = -1) && chkE T a a'
  | .fst es, .JoinedStr (v1 :: v2 :: vs) _ => chkEs T es (v1 :: v2 :: vs)
  | .smt .join a e, .Call (.Attribute a' m ap) [v] [] cp => decide (m = ("join" : Str)) && (ap.endLine == cp.line) && chkE T a a' && chkE T e v
  | .smt .zfill a e, .Call (.Attribute a' m ap) [v] [] cp => decide (m = ("zfill" : Str)) && (ap.endLine == cp.line) && chkE T a a' && chkE T e v
  | .xfl a f, .Attribute a' f' _ => !T.calm && decide (f = f') && chkE T a a'
  | .xis a g, .Call (.Name x _) [a', .Name y _] [] _ => !T.calm && decide (x = ("isinstance" : Str)) && T.xn.contains x && T.glo x && (match T.gn[g]? with | some (z, _) => decide (y = z) | _ => false) && T.glo y && plainN y && chkE T a a'
  | _, _ => false
def chkEs (T : Tb) : Exs → List Expr → Bool
  | .nil, [] => true
  | .cons e es, v :: vs => chkE T e v && chkEs T es vs
  | _, _ => false
def chkO (T : Tb) : Exo → Option Expr → Bool
  | .none, none => true
  | .some e, some v => chkE T e v
  | _, _ => false
def chkC (T : Tb) : Teo → List Expr → Bool
  | .none, [] => true
  | .some e, [v] => chkT T e v
  | _, _ => false
def chkT (T : Tb) : Te → Expr → Bool
  | .val e, v => chkE T e v && (match v with | .BoolOp _ _ _ => false | .UnaryOp .Not _ _ => false | .IfExp _ _ _ _ => false | .Compare _ _ _ _ => false | _ => true)
  | .cmp o a b, .Compare a' [o'] [b'] _ => decide (o = o') && !behindInMarks o' b' && chkE T a a' && chkE T b b'
  | .chn o1 o2 a b c, .Compare a' [o1', o2'] [b', c'] _ => decide (o1 = o1') && decide (o2 = o2') && !lastMarks [o1', o2'] [b', c'] && chkE T a a' && chkE T b b' && chkE T c c'
  | .bop o ts, .BoolOp o' vs _ => decide (o = o') && !vs.isEmpty && chkTs T ts vs
  | .oeq g a b, .Compare a' [.Eq] [b'] _ => T.calm && !behindInMarks .Eq b' && (T.gn[g]?).isSome && chkE T a a' && chkE T b b'
  | .not a, .UnaryOp .Not a' _ => chkT T a a'
  | _, _ => false
def chkTs (T : Tb) : Tes → List Expr → Bool
  | .nil, [] => true
  | .cons e es, v :: vs => chkT T e v && chkTs T es vs
  | _, _ => false
def chkI (T : Tb) (pr : Bool) : Si → Expr → Bool
  | .seq e, v => chkE T e v
  | .rng1 a, .Call (.Name x _) [a'] [] _ => decide (x = ("range" : Str)) && T.xn.contains x && T.glo x && chkE T a a'
  | .rng2 a b, .Call (.Name x _) [a', b'] [] _ => decide (x = ("range" : Str)) && T.xn.contains x && T.glo x && chkE T a a' && chkE T b b'
  | .rng3 a b c, .Call (.Name x _) [a', b', c'] [] _ => decide (x = ("range" : Str)) && T.xn.contains x && T.glo x && chkE T a a' && chkE T b b' && chkE T c c'
  | .enm a, .Call (.Name x _) [a'] [] _ => pr && decide (x = ("enumerate" : Str)) && T.xn.contains x && T.glo x && chkE T a a'
  | .zip a b, .Call (.Name x _) [a', b'] [] _ => pr && decide (x = ("zip" : Str)) && T.xn.contains x && T.glo x && chkE T a a' && chkE T b b'
  | _, _ => false
end

/-! ### what is known of the place where it runs -/
def liftSp (K : PySem.W.Frag) (n : Nat) (sp : DSp) : Sp := fun vs H Q E => vs.length = n ∧ ∃ ds M Ed Qd, RelM K M H ∧ Reps K H ds vs ∧ sp ds M Ed Qd ∧
  (∀ d M' v H', TX H H' → RelM K M' H' → Rep K H' d v → Qd d M' → Q v H') ∧
  (∀ x M' cls dd H', TX H H' → RelM K M' H' → RelX K H' x cls dd → Ed x M' → E cls dd H')
/-- a value that an error's text takes -/
def TxtV : V → Prop
  | .str y => y.length ≤ 1000
  | .int i => i.natAbs.log2 < 1920
  | _ => False
def TxtD : D → Prop
  | .str y => y.length ≤ 1000
  | .int i => i.natAbs.log2 < 1920
  | _ => False
/-- an own error's __init__ -/
def spInit (C : Addr) (fs : List Str) (tx : List Nat) : Sp := fun vs H Q _ => ∃ a ws, vs = .ref a :: ws ∧ ws.length = fs.length ∧ H a = some (exo a C none) ∧ (∀ i ∈ tx, ∃ v, ws[i]? = some v ∧ TxtV v) ∧
  ((fs = [] ∧ Q .non H) ∨ (fs ≠ [] ∧ ∀ dx H', H dx = none → dx ≠ a → H' a = some (exo a C (some dx)) → H' dx = some (exd dx (fs.zip ws).reverse) → (∀ b, b ≠ a → b ≠ dx → H' b = H b) → Q .non H'))
structure ErrOk (CX : CXT) (P : Program) (w : World) (K : PySem.W.Frag) (mg : Str → Option Value) (base : Heap) (lv : Nat) (C : Addr) (fs : List Str) (tx : List Nat) : Prop where
  oex : OexC K C
  nd : fs.Nodup
  few : fs.length ≤ 9
  made : ∃ k fI fd ps, k + 1 ≤ lv ∧ PySem.W.findIn K (.ref C) "__init__" = some (some (.ref fI)) ∧ PySem.W.typeIn K (.ref fI) = some (.type "function") ∧ FnOk P w K mg base CX k fI fd ps (spInit C fs tx) ∧ Binds K fd ps []
/-- an own class: how its instances are made -/
def DflOk (K : PySem.W.Frag) (fd : FuncData) (ps : List Str) (dfl : List D) : Prop := ∀ j, j ≤ dfl.length → ∃ dvs ds, Binds K fd ps ds ∧ Vals dvs ds ∧ ∀ H, Reps K H (dfl.drop (dfl.length - j)) dvs
def ClaOk (CX : CXT) (P : Program) (w : World) (K : PySem.W.Frag) (mg : Str → Option Value) (base : Heap) (lv : Nat) (C : Addr) : Option (Nat × DSp × List D) → Prop
  | none => True
  | some (n, sp, dfl) => ∃ k f fd ps, k + 1 ≤ lv ∧ Mk K C f ∧ FnOk P w K mg base CX k f fd ps (liftSp K (n + 1) sp) ∧ ps.length = n + 1 ∧ DflOk K fd ps dfl
def MtOk (CX : CXT) (P : Program) (w : World) (K : PySem.W.Frag) (mg : Str → Option Value) (base : Heap) (lv : Nat) (C : Addr) (m : Str) (n : Nat) (sp : DSp) (dfl : List D) : Prop :=
  ∃ k f fd ps, k + 1 ≤ lv ∧ Cls K C ∧ Meth K C m f ∧ FnOk P w K mg base CX k f fd ps (liftSp K (n + 1) sp) ∧ ps.length = n + 1 ∧ DflOk K fd ps dfl
def PrOk (CX : CXT) (P : Program) (w : World) (K : PySem.W.Frag) (mg : Str → Option Value) (base : Heap) (lv : Nat) (C : Addr) (f : Str) (sp : DSp) : Prop :=
  ∃ k p g fd ps, k + 1 ≤ lv ∧ Cls K C ∧ PropOf K C f p g ∧ FnOk P w K mg base CX k g fd ps (liftSp K 1 sp) ∧ Binds K fd ps []
structure InsF (K : PySem.W.Frag) (C : Addr) : Prop where
  cl : Cls K C
  ha : PySem.W.findIn K (.ref C) "__class__" = some (some (.builtin "object.__class__"))
  hn : PySem.W.specialIn K (.builtin "object.__class__") "__get__" = some (some (.builtin "getset_descriptor.__get__"))
  htk : PySem.W.takesIn K (.builtin "object.__class__") = some true
  hm : PySem.W.mroIn K C (.type "object") = some true
def IsiOk (K : PySem.W.Frag) : Sum String Addr → Addr → Bool → Prop
  | .inl t, C, b => PySem.W.kitOne K (.type t) (.ref C) = some b
  | .inr D, C, b => InsF K D ∧ PySem.W.kitOne K (.ref D) (.ref C) = some b
def KwcOk (CX : CXT) (P : Program) (w : World) (K : PySem.W.Frag) (mg : Str → Option Value) (base : Heap) (lv : Nat) (C : Addr) (np : Nat) (ks : List Str) (pat : List (Sum Nat D)) : Option (Nat × DSp × List D) → Prop
  | none => True
  | some (n', sp, _) => ∃ k f fd ps gg gV, k + 1 ≤ lv ∧ Mk K C f ∧ FnOk P w K mg base CX k f fd ps (liftSp K (n' + 1) sp) ∧ KBn K fd ps (np + 1) ks gg gV ∧
    ∀ H d v ds vs es zs, ds.length = np → es.length = ks.length → Rep K H d v → Reps K H ds vs → Reps K H es zs → Reps K H (d :: patD pat ds es) (gV (v :: vs) zs) ∧ (gV (v :: vs) zs).length = n' + 1
def clsV : Sum String Addr → Value
  | .inl n => .type n
  | .inr D => .ref D
def GlobOk (CX : CXT) (X : Cx) (lv : Nat) (x : Str) : Option (Nat × Nat) → GV → Prop
  | some (n, k), .fn n' sp dfl => n' = n ∧ dfl.length = k ∧ ∃ f fd ps, FnOk X.prog X.w X.K X.mg X.base CX lv f fd ps (liftSp X.K n sp) ∧ X.mg x = some (.ref f) ∧ PySem.W.keepIn X.K (.ref f) = true ∧ ps.length = n ∧
      ∀ j, j ≤ k → ∃ dvs ds, Binds X.K fd ps ds ∧ Vals dvs ds ∧ ∀ H, Reps X.K H (dfl.drop (k - j)) dvs
  | none, .val d => ∃ u v, X.mg x = some u ∧ RelV v u ∧ ∀ H, Rep X.K H d v
  | none, .cls C => X.mg x = some (.ref C)
  | none, .err C fs tx => X.mg x = some (.ref C) ∧ ErrOk CX X.prog X.w X.K X.mg X.base lv C fs tx
  | none, .cla C i => X.mg x = some (.ref C) ∧ ClaOk CX X.prog X.w X.K X.mg X.base lv C i
  | _, _ => False
def KwOk (CX : CXT) (P : Program) (w : World) (K : PySem.W.Frag) (mg : Str → Option Value) (base : Heap) (lv : Nat) (x : Str) (n' : Nat) (sp : DSp) (np : Nat) (ks : List Str) (pat : List (Sum Nat D)) : Prop :=
  ∃ f fd ps gg gV, FnOk P w K mg base CX lv f fd ps (liftSp K n' sp) ∧ mg x = some (.ref f) ∧ PySem.W.keepIn K (.ref f) = true ∧ KBn K fd ps np ks gg gV ∧
    ∀ H ds vs es zs, ds.length = np → es.length = ks.length → Reps K H ds vs → Reps K H es zs → Reps K H (patD pat ds es) (gV vs zs) ∧ (gV vs zs).length = n'
structure Good (CX : CXT) (X : Cx) (T : Tb) (Γ : Gm) (W : WX) (lv : Nat) : Prop where
  n : X.N = T.N
  nd : X.N.Nodup
  calm : T.calm = true → X.calm = true
  sc : X.env.scope = T.sc
  room : T.calm = true → Room lv X.A
  hu : X.A.units + 64 < cLine
  fn : T.fn = true → ∀ x, X.fn x = true
  xn : ∀ x ∈ T.xn, X.mg x = none
  gcd : T.gcd = true → X.mg "gcd" = some (.builtin "math.gcd")
  glob : ∀ g x o, T.gn[g]? = some (x, o) → GlobOk CX X lv x o (Γ.gv g)
  fld : ∀ C f, Γ.fld C f → Cls X.K C ∧ NoAttr X.K C f
  kwc : ∀ g x nk np ks pat n' sp dfl, T.gn[g]? = some (x, some nk) → Γ.gv g = .fn n' sp dfl → Γ.kwc g np ks = some pat → KwOk CX X.prog X.w X.K X.mg X.base lv x n' sp np ks pat
  mt : ∀ g C m n sp dfl, (Γ.gv g).insOf = some C → Γ.mt g m = some (n, sp, dfl) → MtOk CX X.prog X.w X.K X.mg X.base lv C m n sp dfl
  pr : ∀ g C f sp, (Γ.gv g).insOf = some C → Γ.pr g f = some sp → PrOk CX X.prog X.w X.K X.mg X.base lv C f sp
  isi : ∀ t C b, Γ.isi t C = some b → IsiOk X.K t C b
  kwm : ∀ g x np ks pat C i, T.gn[g]? = some (x, none) → Γ.gv g = .cla C i → Γ.kwc g np ks = some pat → KwcOk CX X.prog X.w X.K X.mg X.base lv C np ks pat i
  nf : ∀ t C, Γ.nf t C = true → PySem.W.notFirst X.K C (clsV t) = true
  xfl : ∀ C f, Γ.xfl C f → XfC X.K C ∧ PySem.W.findIn X.K (.ref C) f = some none
  sub : ∀ C C' b, Γ.sub C C' = some b → ExcC X.K C ∧ PySem.W.kitOne X.K (.ref C) (.ref C') = some b ∧ PySem.W.exmOne X.K (.ref C) (.ref C') = some b
  exn : T.calm = false → ∀ a C d, Γ.exn = some (a, C, d) → ∃ (Y : Cx) (oe : Obj) (pn : List (Addr × Obj)), X = Y.suite a ((a, oe) :: pn) ∧ Zc (.ref C) d oe ∧ ∃ vs, oe.data = .fields vs
  pass : ∀ σ, PassesAt CX X σ (WE W σ)
  cx0 : ∀ o H s e s', ¬ CX o H s (fun _ _ _ => False) e s'
def W0 : WX := fun _ _ _ _ => False

/-! ### small facts of the text -/
theorem star_ok {T : Tb} {m : Ex} {e : Expr} (h : chkE T m e = true) (es : List Expr) (env : Env) : starEach (e :: es) env = (false, eval e env) :: starEach es env := by
  cases e <;> first | rfl | (cases m <;> simp [chkE] at h)
theorem starAll_ok {T : Tb} : ∀ {ms : Exs} {es : List Expr}, chkEs T ms es = true → ∀ env, (starEach es env).any (·.1) = false
  | .nil, [], _, _ => rfl
  | .cons m ms, e :: es, h, env => by
    simp only [chkEs, Bool.and_eq_true] at h
    rw [star_ok h.1, List.any_cons, starAll_ok h.2 env]; rfl
  | .nil, _ :: _, h, _ => by simp [chkEs] at h
  | .cons _ _, [], h, _ => by simp [chkEs] at h
theorem back_any (pos : Pos) : ∀ (l : List (Bool × Sem Value)), (backTo pos l).any (·.1) = l.any (·.1) := by
  intro l
  unfold backTo
  first | (rw [List.any_map]; rfl) | simp [List.any_map]
theorem plainIx_ok {T : Tb} {m : Ex} {e : Expr} (h : chkE T m e = true) : PlainIx e := by
  intro o i
  cases e <;> first | rfl | (cases m <;> simp [chkE] at h)
theorem attr_ok {T : Tb} {m : Ex} {e : Expr} (h : chkE T m e = true) (f : Str) (env : Env) : attributeBase e f env (eval e env) = eval e env := by
  cases e with
  | Call fn args kw pos =>
    cases args with
    | cons a as => cases fn <;> rfl
    | nil => cases fn <;> first | rfl | (cases m <;> simp [chkE] at h; done) | (cases kw <;> first | rfl | (cases m <;> first | (simp [chkE] at h; done) | (
        simp only [chkE, Bool.and_eq_true, Bool.not_eq_true', decide_eq_false_iff_not] at h
        have hs := h.1.1.1.1.2
        unfold attributeBase
        simp [bne_iff_ne.mpr hs])))
  | _ => rfl
theorem fset_ok {T : Tb} {m : Ex} {e : Expr} (h : chkE T m e = true) (env : Env) : ∀ x, foldedSetIterable e env x = pure x := by
  intro x
  cases e <;> first | rfl | (cases m <;> simp [chkE] at h)
theorem iter_ok {T : Tb} {pr : Bool} {m : Si} {e : Expr} (h : chkI T pr m e = true) (env : PySem.Env) : ∀ x, foldedSetIterable e env x = pure x := by
  intro x
  cases e with
  | Set a b c => cases m <;> first | (simp [chkI] at h; done) | (simp only [chkI] at h; rename_i m; cases m <;> simp [chkE] at h)
  | _ => rfl
theorem own_map (T : Tb) (own : List Nat) : (T.own own).map (·.2) = own := by
  unfold Tb.own
  rw [List.map_map]
  induction own with
  | nil => rfl
  | cons a as ih => rw [List.map_cons, ih]; rfl
end DL
namespace DL
open PySem PySem.Spec L2

section
variable {CX : CXT} {X : Cx} {T : Tb} {Γ : Gm} {W : WX} {lv : Nat}
theorem plainN_ok {x : Str} (h : plainN x = true) : (x == ("__debug__" : Str)) = false ∧ (x == ("__classdict__" : Str)) = false ∧ x ≠ "__name__" := by
  unfold plainN at h
  simp only [Bool.and_eq_true, Bool.not_eq_true'] at h
  refine ⟨h.1.1, h.1.2, fun e => ?_⟩
  have := h.2
  rw [e] at this
  simp at this
theorem Good.vis (G : Good CX X T Γ W lv) {x : Str} (h : T.vis x = true) : Vis X.env.scope x := by
  rw [G.sc]
  unfold Tb.vis at h
  unfold Vis
  split at h
  · rename_i e; exact .inl e
  · rename_i e; exact .inr (.inl e)
  · rename_i e; exact .inr (.inr e)
  · cases h
theorem Good.gl (G : Good CX X T Γ W lv) {x : Str} (h : T.glo x = true) : Gl X x := by
  unfold Gl PySem.Env.kindOf
  rw [G.sc]
  unfold Tb.glo at h
  split at h
  · assumption
  · cases h
theorem Good.loc (G : Good CX X T Γ W lv) {x : Str} (h : T.loc x = true) : L2.Loc X.env.scope x ∧ (X.fn x = true ∨ X.env.scope.names.lookup x = some .local) := by
  rw [G.sc]
  unfold Tb.loc at h
  unfold L2.Loc
  split at h
  · rename_i e; exact ⟨.inl e, .inr e⟩
  · rename_i e; exact ⟨.inr e, .inl (G.fn h x)⟩
  · cases h

/-! ### targets -/
def liftG (K : PySem.W.Frag) (ss : List Nat) (td : D → DEnv → (DEnv → Prop) → Prop) : TG := fun v σ H Q => ∃ d ρ M Qd, Rep K H d v ∧ Rel K ρ M σ H ∧ td d ρ Qd ∧
  ∀ ρ' σ', Rel K ρ' M σ' H → σ'.length = σ.length → (∀ i, i ∉ ss → σ'[i]? = σ[i]?) → Qd ρ' → Q σ' H
def liftGs (K : PySem.W.Frag) (ss : List Nat) (td : List D → DEnv → (DEnv → Prop) → Prop) : TGs := fun vs σ H Q => ∃ ds ρ M Qd, Reps K H ds vs ∧ Rel K ρ M σ H ∧ td ds ρ Qd ∧
  ∀ ρ' σ', Rel K ρ' M σ' H → σ'.length = σ.length → (∀ i, i ∉ ss → σ'[i]? = σ[i]?) → Qd ρ' → Q σ' H
theorem each_star {T : Tb} {ts : Tgs} {es : List Expr} (h : chkTgs T ts es = true) (env : PySem.Env) : (assignEach es env).findIdx? (·.1) = none ∧ (assignEach es env).length = es.length := by
  induction es generalizing ts with
  | nil => exact ⟨rfl, rfl⟩
  | cons e es ih =>
    cases ts with
    | nil => simp [chkTgs] at h
    | cons t ts =>
      simp only [chkTgs, Bool.and_eq_true] at h
      obtain ⟨a, b⟩ := ih h.2
      cases t with
      | nm i =>
        cases e <;> first | (simp [chkTg] at h; done) | skip
        refine ⟨?_, by rw [show assignEach (_ :: es) env = (false, _) :: assignEach es env from rfl, List.length_cons, b]; rfl⟩
        rw [show assignEach (_ :: es) env = (false, _) :: assignEach es env from rfl, List.findIdx?_cons, a]; rfl
      | tup us =>
        cases e <;> first | (simp [chkTg] at h; done) | skip
        refine ⟨?_, by rw [show assignEach (_ :: es) env = (false, _) :: assignEach es env from rfl, List.length_cons, b]; rfl⟩
        rw [show assignEach (_ :: es) env = (false, _) :: assignEach es env from rfl, List.findIdx?_cons, a]; rfl
mutual
theorem tgD_ex : ∀ (t : Tg) (d : D) (ρ : DEnv) (Q : DEnv → Prop), tgD t d ρ Q → ∃ ρ', Q ρ'
  | .nm i, d, ρ, Q, h => ⟨_, h⟩
  | .tup ts, d, ρ, Q, h => by
    cases d <;> simp only [tgD] at h
    exact (tgsD_ex ts _ ρ Q h).1
theorem tgsD_ex : ∀ (ts : Tgs) (ds : List D) (ρ : DEnv) (Q : DEnv → Prop), tgsD ts ds ρ Q → (∃ ρ', Q ρ') ∧ ∀ {T : Tb} {es : List Expr}, chkTgs T ts es = true → ds.length = es.length
  | .nil, [], ρ, Q, h => ⟨⟨_, h⟩, fun {T es} c => by cases es <;> first | rfl | (simp [chkTgs] at c)⟩
  | .nil, _ :: _, ρ, Q, h => by simp [tgsD] at h
  | .cons t ts, [], ρ, Q, h => by simp [tgsD] at h
  | .cons t ts, d :: ds, ρ, Q, h => by
    simp only [tgsD] at h
    obtain ⟨ρ1, h1⟩ := tgD_ex t d ρ _ h
    obtain ⟨e, l⟩ := tgsD_ex ts ds ρ1 Q h1
    refine ⟨e, fun {T es} c => ?_⟩
    cases es with
    | nil => simp [chkTgs] at c
    | cons e es =>
      simp only [chkTgs, Bool.and_eq_true] at c
      rw [List.length_cons, List.length_cons, l c.2]
end
mutual
theorem soundG (G : Good CX X T Γ W lv) : ∀ (t : Tg) (e : Expr), chkTg T t e = true → PG X e (liftG X.K t.ss (tgD t))
  | .nm i, e, h => by
    cases e <;> first | (simp [chkTg] at h; done) | skip
    rename_i x pos
    simp only [chkTg, Bool.and_eq_true, decide_eq_true_eq] at h
    obtain ⟨l, f⟩ := G.loc h.2
    refine ⟨fun pins s σ H v u Q I r q => ?_⟩
    refine (pg_name G.nd (by rw [G.n]; exact h.1) l f).run pins s σ H v u Q I r ?_
    obtain ⟨d, ρ, M, Qd, rd, R, q, k⟩ := q
    exact k _ _ ⟨R.env.set rd, R.mem⟩ (by simp) (fun j hj => List.getElem?_set_ne (by simp [Tg.ss] at hj; omega)) q
  | .tup ts, e, h => by
    cases e <;> first | (simp [chkTg] at h; done) | skip
    rename_i es k pos
    simp only [chkTg, Bool.and_eq_true] at h
    obtain ⟨hcm, h⟩ := h
    obtain ⟨st, sl⟩ := each_star h X.env
    refine ⟨fun pins s σ H v u Q I r q => ?_⟩
    refine (pg_tup (G.calm hcm) (soundGs G ts es h) sl st).run pins s σ H v u Q I r ?_
    obtain ⟨d, ρ, M, Qd, rd, R, q, k⟩ := q
    cases d <;> simp only [tgD] at q <;> try (exact q.elim)
    rename_i ds
    obtain ⟨a, xs, rfl, sq, rs⟩ := rd.tup_inv
    refine ⟨a, xs, rfl, sq, ?_, ds, ρ, M, Qd, rs, R, q, fun ρ' σ' R' hl hs hq => k ρ' σ' R' hl hs hq⟩
    rw [← rs.length]; exact (tgsD_ex ts ds ρ Qd q).2 h
theorem soundGs (G : Good CX X T Γ W lv) : ∀ (ts : Tgs) (es : List Expr), chkTgs T ts es = true → PGs X es (liftGs X.K ts.ss (tgsD ts))
  | .nil, es, h => by
    cases es with
    | cons _ _ => simp [chkTgs] at h
    | nil =>
      refine ⟨fun pins s σ H vs us Q I r q => pgs_nil.run pins s σ H vs us Q I r ?_⟩
      obtain ⟨ds, ρ, M, Qd, rd, R, q, k⟩ := q
      cases ds with
      | nil => cases rd; exact ⟨rfl, k ρ σ R rfl (fun _ _ => rfl) q⟩
      | cons _ _ => exact q.elim
  | .cons t ts, es, h => by
    cases es with
    | nil => simp [chkTgs] at h
    | cons e es =>
      simp only [chkTgs, Bool.and_eq_true] at h
      have hs : (assignEach (e :: es) X.env).map (·.2) = assign e X.env :: (assignEach es X.env).map (·.2) := by
        cases t <;> cases e <;> first | rfl | (simp [chkTg] at h; done)
      refine ⟨fun pins s σ H vs us Q I r q => (pgs_cons (soundG G t e h.1) (soundGs G ts es h.2) hs).run pins s σ H vs us Q I r ?_⟩
      obtain ⟨ds, ρ, M, Qd, rd, R, q, k⟩ := q
      cases ds with
      | nil => exact q.elim
      | cons d ds =>
        cases rd with
        | cons r1 r2 =>
          refine ⟨_, _, rfl, d, ρ, M, _, r1, R, q, fun ρ1 σ1 R1 l1 s1 q1 => ⟨ds, ρ1, M, Qd, r2, R1, q1, fun ρ2 σ2 R2 l2 s2 q2 => k ρ2 σ2 R2 (l2.trans l1) (fun i hi => ?_) q2⟩⟩
          simp only [Tgs.ss, List.mem_append, not_or] at hi
          exact (s2 i hi.2).trans (s1 i hi.1)
end
end
end DL
namespace DL
open PySem PySem.Spec L2

/-! ### what is walked -/
structure WalkR (K : PySem.W.Frag) (H0 : Hp) (J : It) (items : List D) (G : Mm → Prop) : Prop where
  ex : ∃ GH Y, Walk J items.length GH Y ∧ (∀ M H, TX H0 H → RelM K M H → G M → GH H) ∧
    ∀ i H x H' d, TX H0 H → items[i]? = some d → Y i H x H' → TX H H' ∧ (∀ M, RelM K M H → RelM K M H') ∧ (∀ a o, H a = some o → H' a = some o) ∧ Rep K H' d x
def liftI (K : PySem.W.Frag) (W : WX) (ti : DEnv → Mm → EK → (List D → (Mm → Prop) → Mm → Prop) → Prop) : TI := fun σ H R => ∃ ρ M E Qd, Rel K ρ M σ H ∧ ti ρ M E Qd ∧
  (∀ items G M' J H', TX H H' → Rel K ρ M' σ H' → WalkR K H' J items G → Qd items G M' → R J H') ∧
  (∀ x M' cls dd H', TX H H' → Rel K ρ M' σ H' → RelX K H' x cls dd → E x M' → W cls dd σ H')
def iSeq (K : PySem.W.Frag) (tl : TE) : TI := fun σ H R => tl σ H fun x H1 => ∃ a, x = .ref a ∧ (((∃ xs, SqL K H1 a xs) ∧ R (Itl K a) H1) ∨ ((∃ xs, SqT K H1 a xs) ∧ R (Itt K a) H1))
theorem PI.imp {X : Cx} {tg e : Expr} {t t' : TI} (h : PI X tg e t) (i : ∀ σ H Q, t' σ H Q → t σ H Q) : PI X tg e t' := ⟨fun pins s σ H Q I q => h.run pins s σ H Q I (i σ H Q q)⟩
theorem pi_seq {X : Cx} {tg l : Expr} {tl : TE} (hl : PE X l tl) : PI X tg l (iSeq X.K tl) := by
  refine ⟨fun pins s σ H R I h => ?_⟩
  refine thn (hl.run pins s σ H _ I h) fun v s1 w => ?_
  obtain ⟨x, H1, I1, r1, a, e, q⟩ := w
  subst e
  cases r1
  have hb : ∀ b ∈ [s1.heap.objs.size], FpOk X pins H1 b := fun b hb => by
    have e : b = s1.heap.objs.size := by simpa using hb
    rw [e]
    exact I1.fpOk (Nat.le_refl _) (I1.hok.fresh (Nat.le_refl _))
  rcases q with ⟨⟨xs, hq⟩, q⟩ | ⟨⟨xs, hq⟩, q⟩
  · obtain ⟨its, rv, p, hz⟩ := I1.list hq
    exact wpAny_pyIter_list p.isList ⟨s1.heap.objs.size, [s1.heap.objs.size], _, _, H1, rfl, I1.kept (t' := s1.toks) (fun b o e => Heap.get?_push_of_some _ e), turn_list a _, ⟨_, Heap.get?_push_size _ rfl, rfl, rfl⟩, hb, q⟩
  · obtain ⟨its, rv, p, hz⟩ := I1.tuple hq
    exact wpAny_pyIter_tuple (show s1.heap.IsTuple a its.toArray from p) ⟨s1.heap.objs.size, [s1.heap.objs.size], _, _, H1, rfl, I1.kept (t' := s1.toks) (fun b o e => Heap.get?_push_of_some _ e), turn_tuple a _, ⟨_, Heap.get?_push_size _ rfl, rfl, rfl⟩, hb, q⟩

section
variable {K : PySem.W.Frag} {H0 : Hp} {a b : Addr} {xs ys : List V} {ds es : List D}
theorem rep_at {H : Hp} {i : Nat} {d : D} {x : V} (r : Reps K H ds xs) (h : ds[i]? = some d) (hx : xs[i]? = some x) : Rep K H d x := by
  obtain ⟨v, a, q⟩ := r.get h
  rw [hx] at a; cases a
  exact q
abbrev GL (K : PySem.W.Frag) (a : Addr) (ds : List D) : Hp → Prop := fun H => ∃ vs, SqL K H a vs ∧ Reps K H ds vs
abbrev GT (K : PySem.W.Frag) (a : Addr) (ds : List D) : Hp → Prop := fun H => ∃ vs, SqT K H a vs ∧ Reps K H ds vs
theorem get_lt {H : Hp} {i : Nat} {vs : List V} (r : Reps K H ds vs) (h : i < ds.length) : ∃ x, vs[i]? = some x := ⟨vs[i]'(by rw [← r.length]; exact h), by simp⟩
theorem walkR_list : WalkR K H0 (Itl K a) ds (fun M => M a = some (.lst ds) ∨ M a = some (.rol ds)) := by
  refine ⟨GL K a ds, fun i H x H' => H' = H ∧ ∃ vs, SqL K H a vs ∧ Reps K H ds vs ∧ vs[i]? = some x, ⟨?_, ?_, ?_⟩, ?_, ?_⟩
  · rintro i H hi ⟨vs, s, r⟩
    obtain ⟨x, hx⟩ := get_lt r hi
    exact ⟨vs, x, s, hx⟩
  · rintro H ⟨vs, s, r⟩
    exact ⟨vs, s, by rw [r.length]; exact Nat.le_refl _⟩
  · rintro i H x H' hi ⟨vs, s, r⟩ ⟨e, y⟩
    exact ⟨e, vs, s, r, y vs s⟩
  · intro M H _ m h
    exact m.sq h
  · rintro i H x H' d _ hd ⟨rfl, vs, s, r, hx⟩
    exact ⟨TX.refl _, fun _ m => m, fun _ _ h => h, rep_at r hd hx⟩
theorem walkR_tup (r0 : Reps K H0 ds xs) (s0 : SqT K H0 a xs) : WalkR K H0 (Itt K a) ds (fun _ => True) := by
  refine ⟨fun H => TX H0 H, fun i H x H' => H' = H ∧ TX H0 H ∧ xs[i]? = some x, ⟨?_, ?_, ?_⟩, fun M H e _ _ => e, ?_⟩
  · rintro i H hi e
    obtain ⟨x, hx⟩ := get_lt r0 hi
    exact ⟨xs, x, e.sq s0, hx⟩
  · rintro H e
    exact ⟨xs, e.sq s0, by rw [r0.length]; exact Nat.le_refl _⟩
  · rintro i H x H' hi e ⟨e1, y⟩
    exact ⟨e1, e, y xs (e.sq s0)⟩
  · rintro i H x H' d _ hd ⟨rfl, e, hx⟩
    exact ⟨TX.refl _, fun _ m => m, fun _ _ h => h, rep_at (r0.mono e) hd hx⟩
theorem rngD_len (lo : Int) (n : Nat) : (rngD lo n).length = n := by simp [rngD]
theorem rngD_get {lo : Int} {n i : Nat} {d : D} (h : (rngD lo n)[i]? = some d) : d = .int (lo + i) := by
  unfold rngD at h
  rw [List.getElem?_map] at h
  cases q : (List.range n)[i]? with
  | none => rw [q] at h; cases h
  | some j =>
    rw [q] at h
    obtain ⟨hj, e⟩ := List.getElem?_eq_some_iff.mp q
    simp at e
    subst e
    exact (Option.some.inj h).symm
theorem walkR_rngC {lo c : Int} {n : Nat} : WalkR K H0 (Itc lo c n) (rngC lo c n) (fun _ => True) := by
  have ln : (rngC lo c n).length = n := by simp [rngC]
  refine ⟨fun _ => True, fun i H x H' => H' = H ∧ x = .int (lo + (i : Nat) * c), ⟨?_, ?_, ?_⟩, fun _ _ _ _ _ => trivial, ?_⟩
  · intro i H hi _; rw [ln] at hi; exact hi
  · intro H _; rw [ln]; exact Nat.le_refl _
  · intro i H x H' _ _ y; exact y
  · rintro i H x H' d _ hd ⟨rfl, rfl⟩
    have e : d = .int (lo + (i : Nat) * c) := by
      unfold rngC at hd
      rw [List.getElem?_map] at hd
      cases q : (List.range n)[i]? with
      | none => rw [q] at hd; cases hd
      | some j =>
        rw [q] at hd
        obtain ⟨hj, e⟩ := List.getElem?_eq_some_iff.mp q
        simp at e
        subst e
        exact (Option.some.inj hd).symm
    rw [e]
    exact ⟨TX.refl _, fun _ m => m, fun _ _ h => h, .int _⟩
theorem walkR_rng {lo : Int} {n : Nat} : WalkR K H0 (Itr lo n) (rngD lo n) (fun _ => True) := by
  refine ⟨fun _ => True, fun i H x H' => H' = H ∧ x = .int (lo + i), ⟨?_, ?_, ?_⟩, fun _ _ _ _ _ => trivial, ?_⟩
  · intro i H hi _; rw [rngD_len] at hi; exact hi
  · intro H _; rw [rngD_len]; exact Nat.le_refl _
  · intro i H x H' _ _ y; exact y
  · rintro i H x H' d _ hd ⟨rfl, rfl⟩
    rw [rngD_get hd]
    exact ⟨TX.refl _, fun _ m => m, fun _ _ h => h, .int _⟩
theorem enmD_len : ∀ (k : Nat) (ds : List D), (enmD k ds).length = ds.length
  | _, [] => rfl
  | k, d :: ds => by simp [enmD, enmD_len (k + 1) ds]
theorem enmD_get : ∀ {k : Nat} {ds : List D} {i : Nat} {d : D}, (enmD k ds)[i]? = some d → ∃ e, ds[i]? = some e ∧ d = .tup [.int (k + i : Nat), e]
  | _, [], _, _, h => by simp [enmD] at h
  | k, d :: ds, 0, x, h => by simp [enmD] at h; exact ⟨d, rfl, by rw [← h]; simp⟩
  | k, d :: ds, i + 1, x, h => by
    simp only [enmD, List.getElem?_cons_succ] at h
    obtain ⟨e, h1, h2⟩ := enmD_get h
    refine ⟨e, by simpa using h1, ?_⟩
    rw [h2, show k + 1 + i = k + (i + 1) by omega]
theorem pair_new {H : Hp} {T : Addr} {x y : V} {d e : D} (hT : H T = none) (r1 : Rep K H d x) (r2 : Rep K H e y) :
    TX H (upd H T (.tup [x, y])) ∧ (∀ M, RelM K M H → RelM K M (upd H T (.tup [x, y]))) ∧ (∀ a o, H a = some o → upd H T (.tup [x, y]) a = some o) ∧ Rep K (upd H T (.tup [x, y])) (.tup [d, e]) (.ref T) :=
  ⟨TX.new hT, fun M m => m.new hT, fun a o h => by rw [upd_ne (ne_of_none h hT)]; exact h, .tup (SqT.of upd_same) (.cons (r1.mono (TX.new hT)) (.cons (r2.mono (TX.new hT)) .nil))⟩
theorem walkR_enm : WalkR K H0 (Ite K a) (enmD 0 ds) (fun M => M a = some (.lst ds) ∨ M a = some (.rol ds)) := by
  refine ⟨GL K a ds, fun i H v H' => ∃ T x vs, v = .ref T ∧ H T = none ∧ H' = upd H T (.tup [.int (i : Nat), x]) ∧ Reps K H ds vs ∧ vs[i]? = some x, ⟨?_, ?_, ?_⟩, ?_, ?_⟩
  · rintro i H hi ⟨vs, s, r⟩
    rw [enmD_len] at hi
    obtain ⟨x, hx⟩ := get_lt r hi
    exact ⟨vs, x, s, hx⟩
  · rintro H ⟨vs, s, r⟩
    exact ⟨vs, s, by rw [enmD_len, r.length]; exact Nat.le_refl _⟩
  · rintro i H x H' hi ⟨vs, s, r⟩ ⟨T, y, h1, h2, h3, h4⟩
    exact ⟨T, y, vs, h1, h2, h3, r, h4 vs s⟩
  · intro M H _ m h
    exact m.sq h
  · rintro i H x H' d _ hd ⟨T, y, vs, rfl, hT, rfl, r, hx⟩
    obtain ⟨e, h1, rfl⟩ := enmD_get hd
    obtain ⟨a1, a2, a3, a4⟩ := pair_new (K := K) hT (.int ((i : Nat) : Int)) (rep_at r h1 hx)
    exact ⟨a1, a2, a3, by rw [Nat.zero_add]; exact a4⟩
theorem zipD_len : ∀ (ds es : List D), (zipD ds es).length = min ds.length es.length
  | [], _ => by simp [zipD]
  | _ :: _, [] => by simp [zipD]
  | d :: ds, e :: es => by simp [zipD, zipD_len ds es]
theorem zipD_get : ∀ {ds es : List D} {i : Nat} {d : D}, (zipD ds es)[i]? = some d → ∃ x y, ds[i]? = some x ∧ es[i]? = some y ∧ d = .tup [x, y]
  | [], _, _, _, h => by simp [zipD] at h
  | _ :: _, [], _, _, h => by simp [zipD] at h
  | d :: ds, e :: es, 0, x, h => by simp [zipD] at h; exact ⟨d, e, rfl, rfl, h.symm⟩
  | d :: ds, e :: es, i + 1, x, h => by
    simp only [zipD, List.getElem?_cons_succ] at h
    obtain ⟨x, y, h1, h2, h3⟩ := zipD_get h
    exact ⟨x, y, by simpa using h1, by simpa using h2, h3⟩
theorem walkR_zip : WalkR K H0 (Itz K a b) (zipD ds es) (fun M => (M a = some (.lst ds) ∨ M a = some (.rol ds)) ∧ (M b = some (.lst es) ∨ M b = some (.rol es))) := by
  refine ⟨fun H => GL K a ds H ∧ GL K b es H, fun i H v H' => ∃ T x y vs ws, v = .ref T ∧ H T = none ∧ H' = upd H T (.tup [x, y]) ∧ Reps K H ds vs ∧ Reps K H es ws ∧ vs[i]? = some x ∧ ws[i]? = some y, ⟨?_, ?_, ?_⟩, ?_, ?_⟩
  · rintro i H hi ⟨⟨vs, s, r⟩, ws, t, q⟩
    rw [zipD_len] at hi
    obtain ⟨x, hx⟩ := get_lt r (Nat.lt_of_lt_of_le hi (Nat.min_le_left _ _))
    obtain ⟨y, hy⟩ := get_lt q (Nat.lt_of_lt_of_le hi (Nat.min_le_right _ _))
    exact ⟨vs, ws, x, y, s, t, hx, hy⟩
  · rintro H ⟨⟨vs, s, r⟩, ws, t, q⟩
    exact ⟨vs, ws, s, t, by rw [zipD_len, r.length, q.length]; omega⟩
  · rintro i H x H' hi ⟨⟨vs, s, r⟩, ws, t, q⟩ ⟨T, x1, y1, h1, h2, h3, h4, h5⟩
    exact ⟨T, x1, y1, vs, ws, h1, h2, h3, r, q, h4 vs s, h5 ws t⟩
  · intro M H _ m h
    exact ⟨m.sq h.1, m.sq h.2⟩
  · rintro i H x H' d _ hd ⟨T, x1, y1, vs, ws, rfl, hT, rfl, r, q, hx, hy⟩
    obtain ⟨u, v, h1, h2, rfl⟩ := zipD_get hd
    exact pair_new (K := K) hT (rep_at r h1 hx) (rep_at q h2 hy)
theorem walkR_zipT (r0 : Reps K H0 ds xs) (s0 : SqT K H0 a xs) (r1 : Reps K H0 es ys) (s1 : SqT K H0 b ys) : WalkR K H0 (RZ.ItzT K a b) (zipD ds es) (fun _ => True) := by
  refine ⟨fun H => TX H0 H, fun i H v H' => ∃ T x y, v = .ref T ∧ H T = none ∧ H' = upd H T (.tup [x, y]) ∧ TX H0 H ∧ xs[i]? = some x ∧ ys[i]? = some y, ⟨?_, ?_, ?_⟩, fun M H e _ _ => e, ?_⟩
  · rintro i H hi e
    rw [zipD_len] at hi
    obtain ⟨x, hx⟩ := get_lt r0 (Nat.lt_of_lt_of_le hi (Nat.min_le_left _ _))
    obtain ⟨y, hy⟩ := get_lt r1 (Nat.lt_of_lt_of_le hi (Nat.min_le_right _ _))
    exact ⟨xs, ys, x, y, e.sq s0, e.sq s1, hx, hy⟩
  · rintro H e
    exact ⟨xs, ys, e.sq s0, e.sq s1, by rw [zipD_len, r0.length, r1.length]; omega⟩
  · rintro i H x H' hi e ⟨T, x1, y1, h1, h2, h3, h4, h5⟩
    exact ⟨T, x1, y1, h1, h2, h3, e, h4 xs (e.sq s0), h5 ys (e.sq s1)⟩
  · rintro i H x H' d _ hd ⟨T, x1, y1, rfl, hT, rfl, e, hx, hy⟩
    obtain ⟨u, v, h1, h2, rfl⟩ := zipD_get hd
    exact pair_new (K := K) hT (rep_at (r0.mono e) h1 hx) (rep_at (r1.mono e) h2 hy)
end
end DL
namespace DL
open PySem PySem.Spec L2
open PyProof.Rows hiding St
/-! ### enumerate and zip over lists and tuples alike -/
inductive Kd where
  | l | t
def SqK (K : PySem.W.Frag) (H : Hp) (k : Kd) (a : Addr) (xs : List V) : Prop := match k with
  | .l => SqL K H a xs
  | .t => SqT K H a xs
def ItK (k : Kd) (h : Heap) (it a : Addr) (i : Nat) : Prop := match k with
  | .l => h.IsListIter it a i
  | .t => h.IsTupleIter it a i
def SK (k : Kd) (h : Heap) (a : Addr) (its : Array Value) : Prop := match k with
  | .l => h.IsList a its
  | .t => h.IsTuple a its
def itO (k : Kd) (a : Addr) : Obj := match k with
  | .l => { cls := .type "list_iterator", data := .fields #[.ref a, .int 0 0] }
  | .t => { cls := .type "tuple_iterator", data := .fields #[.ref a, .int 0 0] }
theorem drawsK {prog : Program} {w : World} {A : Around} (hh : A.handled = none) (k : Kd) (it a : Addr) (hne : a ≠ it) (items : Array Value) :
    Draws prog w A it [it, a] items.size (fun i v => items[i]? = some v) (fun i h => ItK k h it a i ∧ SK k h a items) := by
  cases k with
  | l => exact Draws.list hh it a hne items
  | t => exact Draws.tuple hh it a hne items
theorem beginsK (k : Kd) (a : Addr) (items : Array Value) : Begins (.ref a) (itO k a) fun h => SK k h a items := by
  cases k with
  | l => exact begins_list a items
  | t => exact begins_tuple a items
theorem ItK.at_ {k : Kd} {h h' : Heap} {it a : Addr} {i : Nat} (x : ItK k h it a i) (e : ∀ o, h.get? it = some o → h'.get? it = some o) : ItK k h' it a i := by
  cases k with
  | l => exact Heap.IsListIter.at x e
  | t => exact Heap.IsTupleIter.at x e
theorem ItK.obj {k : Kd} {h : Heap} {it a : Addr} {i : Nat} (x : ItK k h it a i) : ∃ o vs, h.get? it = some o ∧ o.data = .fields vs := by
  cases k with
  | l => obtain ⟨o, e, _, d⟩ := x; exact ⟨o, _, e, d⟩
  | t => obtain ⟨o, e, _, d⟩ := x; exact ⟨o, _, e, d⟩
theorem ItK.start {k : Kd} {h : Heap} {it a : Addr} (e : h.get? it = some (itO k a)) : ItK k h it a 0 := by
  cases k with
  | l => exact ⟨_, e, rfl, rfl⟩
  | t => exact ⟨_, e, rfl, rfl⟩
theorem SK.obj {k : Kd} {h : Heap} {a : Addr} {its : Array Value} (x : SK k h a its) : ∃ o n, h.get? a = some o ∧ o.data = .seq its n := by
  cases k with
  | l => obtain ⟨o, e, _, n, d⟩ := x; exact ⟨o, n, e, d⟩
  | t => obtain ⟨o, e, _, n, d⟩ := x; exact ⟨o, n, e, d⟩
theorem SK.ne {k : Kd} {h : Heap} {a b : Addr} {its : Array Value} {o : Obj} {vs : Array Value} (x : SK k h a its) (e : h.get? b = some o) (d : o.data = .fields vs) : a ≠ b := fun q => by
  obtain ⟨u, n, e1, d1⟩ := x.obj
  rw [q, e] at e1
  cases e1
  rw [d] at d1
  cases d1
theorem seqK {X : Cx} {pins : List (Addr × Obj)} {σ : L2.St} {H : Hp} {s : Shared} {k : Kd} {a : Addr} {xs : List V} (I : Inv X pins σ H s) (h : SqK X.K H k a xs) : ∃ its : List Value, Vals xs its ∧ SK k s.heap a its.toArray := by
  cases k with
  | l => obtain ⟨its, r, p, _⟩ := I.list h; exact ⟨its, r, p.isList⟩
  | t => obtain ⟨its, r, p, _⟩ := I.tuple h; exact ⟨its, r, p⟩
theorem seqK_inj {X : Cx} {pins : List (Addr × Obj)} {σ : L2.St} {H : Hp} {s : Shared} {k : Kd} {a : Addr} {xs ys : List V} (I : Inv X pins σ H s) (h : SqK X.K H k a xs) (h' : SqK X.K H k a ys) : xs = ys := by
  cases k with
  | l => exact I.list_inj h h'
  | t => exact I.tuple_inj h h'
def IteK (K : PySem.W.Frag) (k : Kd) (a : Addr) : It :=
  ⟨fun i H => ∃ (xs : List V) (x : V), SqK K H k a xs ∧ xs[i]? = some x, fun i H v H' => ∃ T x, v = .ref T ∧ H T = none ∧ H' = upd H T (.tup [.int (i : Nat), x]) ∧ ∀ xs, SqK K H k a xs → xs[i]? = some x, fun i H => ∃ xs : List V, SqK K H k a xs ∧ xs.length = i⟩
theorem turn_enumK {P : Program} {w : World} {K : PySem.W.Frag} {elts : List Expr} {kk : Nat} {tpos : Pos} (k : Kd) (a e it : Addr) :
    Turn P w K (.Tuple elts kk tpos) (IteK K k a) [e, it] e (fun i h => (∃ old, IsEnum h e it ((i : Nat) : Int) old) ∧ ItK k h it a i ∧ e ≠ it) where
  mem := List.mem_cons_self
  obj := fun i h st b hb => by
    obtain ⟨⟨old, he⟩, hi, _⟩ := st
    obtain ⟨o, vs, ho, hd⟩ := hi.obj
    rcases List.mem_cons.mp hb with z | hb
    · subst z; exact ⟨_, he, fun v q => by cases q⟩
    · obtain rfl : b = it := List.mem_singleton.mp hb
      exact ⟨o, ho, fun v q => by rw [hd] at q; cases q⟩
  keep := fun i h h' ⟨⟨old, he⟩, hi, hne⟩ g => ⟨⟨old, g e List.mem_cons_self _ he⟩, hi.at_ fun o q => g it (List.mem_cons_of_mem _ List.mem_cons_self) o q, hne⟩
  item := by
    intro X hP hw hK hc i pins s σ H E I hf st ⟨xs, x, hq, hx⟩
    cases hP; cases hw; cases hK
    obtain ⟨⟨old, he⟩, hit, hne⟩ := st
    obtain ⟨its, rv, p⟩ := seqK I hq
    obtain ⟨u, hu, ru⟩ := rv.get hx
    obtain ⟨oi, vi, hoi, hdi⟩ := hit.obj
    have el := Heap.lt_size he
    have il := Heap.lt_size hoi
    have lt : i < its.toArray.size := by
      rcases Nat.lt_or_ge i its.length with z | z
      · simpa using z
      · rw [List.getElem?_eq_none z] at hu; cases hu
    have D := drawsK (prog := X.prog) (w := X.w) (A := X.A.in1) (I.ok.hd hc) k it a (p.ne hoi hdi) its.toArray
    refine wpAny_pyNext_enum_itemD D he ⟨hit, p⟩ lt hne (fun z => ?_) fun v h' tk hv ho hst hT hsz hk => ?_
    · rcases List.mem_cons.mp z with z | z
      · exact hne z
      · exact p.ne he rfl (List.mem_singleton.mp z).symm
    have huv : v = u := by
      have q : its.toArray[i]? = some v := hv
      have q2 : its.toArray[i]? = some u := by simpa using hu
      rw [q] at q2
      exact Option.some.inj q2
    subst huv
    refine ⟨_, rfl, wpAny_letOwnedTupleGo_enum (s := { s with heap := h', toks := tk + 1 }) ho fun h2 he2 sb => ?_⟩
    have hT2 : h2.get? s.heap.objs.size = some { cls := .type "tuple", data := .seq #[.int i tk, v] } := (sb.2 _ (Nat.ne_of_gt el)).trans hT
    have new : ObjOk X.prog X.w (upd H s.heap.objs.size (.tup [.int (i : Nat), x])) h2 s.heap.objs.size (.tup [.int (i : Nat), x]) := ⟨by show 2 ≤ sizeLine; decide, [.int i tk, v], .cons ⟨_, rfl⟩ (.cons ru .nil), ⟨_, hT2, rfl, _, rfl⟩⟩
    have I1 : Inv X pins σ (upd H s.heap.objs.size (.tup [.int (i : Nat), x])) { s with heap := h2, toks := tk + 1 } :=
      I.turnedNew (ch := [e, it]) (fun b ob hb q => by
        have b1 : b ≠ e := fun z => hb (by rw [z]; exact List.mem_cons_self)
        have b2 : b ≠ it := fun z => hb (by rw [z]; exact List.mem_cons_of_mem _ List.mem_cons_self)
        exact (sb.2 b b1).trans (hk b ob b1 b2 q)) hf (Nat.le_refl _) new
    refine ⟨.ref s.heap.objs.size, _, I1, rfl, ⟨_, x, rfl, I.hok.fresh (Nat.le_refl _), rfl, fun ys hy => by rw [seqK_inj I hy hq]; exact hx⟩, ⟨⟨v, ?_⟩, hst.1.at_ fun o q => (sb.2 it (Ne.symm hne)).trans q, hne⟩, fun b hb => ?_⟩
    · rw [show ((i + 1 : Nat) : Int) = (i : Int) + 1 by omega]; exact he2
    · have hb' : b < s.heap.objs.size := by
        rcases List.mem_cons.mp hb with z | z
        · subst z; exact el
        · rw [List.mem_singleton.mp z]; exact il
      rw [upd_ne (Nat.ne_of_lt hb')]
      exact (hf b hb).1
  done := by
    intro X hP hw hK hc i pins s σ H E I hf st ⟨xs, hq, hx⟩
    cases hP; cases hw; cases hK
    obtain ⟨⟨old, he⟩, hit, hne⟩ := st
    obtain ⟨its, rv, p⟩ := seqK I hq
    obtain ⟨oi, vi, hoi, hdi⟩ := hit.obj
    obtain ⟨f0, f1, f2, f3, f4, f5⟩ := hf it (List.mem_cons_of_mem _ List.mem_cons_self)
    have D := drawsK (prog := X.prog) (w := X.w) (A := X.A.in1) (I.ok.hd hc) k it a (p.ne hoi hdi) its.toArray
    have hl := rv.length
    have hsz : its.toArray.size = i := by simp; omega
    exact wpAny_pyNext_enum_endD D he (by rw [hsz]; exact ⟨hit, p⟩) fun h' eb => ⟨rfl, I.turned (t' := s.toks) (fun b o hb q => eb b o hb q) f0 f1 f3 f4 f5⟩
  self := fun A i s Q E ⟨⟨_, he⟩, _⟩ h => wpAny_pyIter_enum he h
end DL
namespace DL
open PySem PySem.Spec L2
open PyProof.Rows hiding St
theorem enum_new_t (l : Addr) (items : Array Value) :
    Meets (Builtin.«enumerate.__new__» ⟨[.type "enumerate", .ref l], []⟩) (fun _ R s => SK .t s.heap l items ∧ R (.ok (.ret (.ref (s.heap.push (itO .t l)).objs.size))) { s with heap := (s.heap.push (itO .t l)).push { cls := .type "enumerate", data := .fields #[.none, .bool false, .ref s.heap.objs.size, rawInt 0, .none, .none] } }) := .of_wp fun prog w A R s h => by
  obtain ⟨hp, g, d, tk, os⟩ := s
  obtain ⟨hL, h⟩ := h
  have hsub := sub_enumerate
  have hT : Heap.IsTuple (Shared.heap ⟨hp, g, d, tk, os⟩) l items := hL
  obtain ⟨ol, hl, hc, n, hd⟩ := id hT
  have e0 : ∀ {A' : Around} {E : Value → Shared → Prop} {Q : Value → Shared → Prop}, Q (.ref hp.objs.size) ⟨hp.push (itO .t l), g, d, tk, os⟩ → wpAny (model prog w) A' (pyIter (.ref l)) Q E ⟨hp, g, d, tk, os⟩ := fun q => wpAny_pyIter_tuple hT q
  wp_walk using e0
  refine wpAny_stack_any fun st => wpAny_pure ?_
  split
  · rename_i c _ _ _ _ _
    cases (c == Value.type "enumerate") <;> (wp_walk using e0; exact ⟨_, rfl, h⟩)
  · wp_walk using e0; exact ⟨_, rfl, h⟩
theorem call_enumK {prog : Program} {w : World} {A : Around} {E : Value → Shared → Prop} {s : Shared} (k : Kd) {l : Addr} {items : Array Value} {Q : Value → Shared → Prop} (hL : SK k s.heap l items)
    (h : ∀ h', IsEnum h' (s.heap.objs.size + 1) s.heap.objs.size 0 .none → ItK k h' s.heap.objs.size l 0 → h'.objs.size = s.heap.objs.size + 2 → (∀ b o, s.heap.get? b = some o → h'.get? b = some o) → Q (.ref (s.heap.objs.size + 1)) { s with heap := h' }) :
    wpAny (model prog w) A (call (.type "enumerate") [.ref l]) Q E s := by
  cases k with
  | l => exact call_enumerate_list hL h
  | t =>
    refine callType_new F.called_enumerate (by decide) (F.typeCall_enumerate_1 _) (F.newCall_enumerate_1 _) (fun obj => F.args_object_init_2 obj _) F.entry_enumerate_new (enum_new_t l items) ⟨hL, ?_⟩
    have hz : (s.heap.push (itO .t l)).objs.size = s.heap.objs.size + 1 := Heap.size_push ..
    have g0 : ∀ b o, s.heap.get? b = some o → ((s.heap.push (itO .t l)).push { cls := .type "enumerate", data := .fields #[.none, .bool false, .ref s.heap.objs.size, rawInt 0, .none, .none] }).get? b = some o := fun b o q => Heap.get?_push_of_some _ (Heap.get?_push_of_some _ q)
    have g1 : ((s.heap.push (itO .t l)).push { cls := .type "enumerate", data := .fields #[.none, .bool false, .ref s.heap.objs.size, rawInt 0, .none, .none] }).get? s.heap.objs.size = some (itO .t l) := Heap.get?_push_of_some _ (Heap.get?_push_size _ rfl)
    have g2 := Heap.get?_push_size (s.heap.push (itO .t l)) (o := { cls := .type "enumerate", data := .fields #[.none, .bool false, .ref s.heap.objs.size, rawInt 0, .none, .none] }) rfl
    show _ ∧ _
    rw [hz] at g2 ⊢
    exact ⟨⟨_, g2, rfl⟩, h _ g2 (.start (k := .t) g1) (by rw [Heap.size_push, hz]) g0⟩
def iEnumK (K : PySem.W.Frag) (ta : TA) : TI := fun σ H R => ta σ H fun vs H1 => ∃ k a xs, vs = [.ref a] ∧ SqK K H1 k a xs ∧ R (IteK K k a) H1
theorem pi_enumK {X : Cx} {e : Expr} {ta : TA} {p pos tpos : Pos} {elts : List Expr} {kk : Nat} (hg : Gl X "enumerate") (hm : X.mg "enumerate" = none) (ha : PA X [e] ta) (hs : starEach [e] X.env = [(false, eval e X.env)]) :
    PI X (.Tuple elts kk tpos) (.Call (.Name "enumerate" p) [e] [] pos) (iEnumK X.K ta) := ⟨fun pins s σ H R I h => by
  refine Call_ (ld_blt I hg hm boot_enumerate (PyProof.Rows.callWith_type1 (thn (ha.run pos pins s σ H _ I h) fun us s1 ⟨vs, H1, I1, r1, k, a, xs, ex, hq, q⟩ => ?_) hs rfl))
  subst ex
  obtain ⟨u, rfl, ru⟩ := vals1 r1
  obtain rfl : u = Value.ref a := ru
  obtain ⟨its, rv, p'⟩ := seqK I1 hq
  refine call_enumK k p' fun h' he hit hsz hk => wpAny_pyIter_enum he ?_
  refine ⟨s1.heap.objs.size + 1, [s1.heap.objs.size + 1, s1.heap.objs.size], _, _, H1, rfl, I1.kept (t' := s1.toks) hk, turn_enumK k a (s1.heap.objs.size + 1) s1.heap.objs.size, ⟨⟨.none, he⟩, hit, Nat.succ_ne_self _⟩, fun b hb => ?_, q⟩
  have hle : s1.heap.objs.size ≤ b := by
    rcases List.mem_cons.mp hb with z | z
    · rw [z]; exact Nat.le_succ _
    · rw [List.mem_singleton.mp z]; exact Nat.le_refl _
  exact I1.fpOk hle (I1.hok.fresh hle)⟩
/-! ### zip -/
def ItzK (K : PySem.W.Frag) (k j : Kd) (a b : Addr) : It :=
  ⟨fun i H => ∃ (xs ys : List V) (x y : V), SqK K H k a xs ∧ SqK K H j b ys ∧ xs[i]? = some x ∧ ys[i]? = some y,
    fun i H v H' => ∃ T x y, v = .ref T ∧ H T = none ∧ H' = upd H T (.tup [x, y]) ∧ (∀ xs, SqK K H k a xs → xs[i]? = some x) ∧ ∀ ys, SqK K H j b ys → ys[i]? = some y,
    fun i H => ∃ xs ys : List V, SqK K H k a xs ∧ SqK K H j b ys ∧ i = min xs.length ys.length⟩
/-- the cells of a zip, apart from one another -/
structure Apt (z TI TO i1 i2 a b : Addr) : Prop where
  d1 : z ≠ TI ∧ z ≠ TO ∧ z ≠ i1 ∧ z ≠ i2 ∧ z ≠ a ∧ z ≠ b
  d2 : TI ≠ TO ∧ TI ≠ i1 ∧ TI ≠ i2
  d3 : TO ≠ i1 ∧ TO ≠ i2 ∧ TO ≠ a ∧ TO ≠ b
  d4 : i1 ≠ i2 ∧ i1 ≠ a ∧ i1 ≠ b ∧ i2 ≠ a ∧ i2 ≠ b
theorem apt_at (n a b : Nat) (ha : a < n) (hb : b < n) : Apt (n + 4) (n + 2) (n + 3) n (n + 1) a b := by
  refine ⟨⟨?_, ?_, ?_, ?_, ?_, ?_⟩, ⟨?_, ?_, ?_⟩, ⟨?_, ?_, ?_, ?_⟩, ?_, ?_, ?_, ?_, ?_⟩ <;> (intro (h : (_ : Nat) = (_ : Nat)); omega)
theorem Apt.sep {z TI TO i1 i2 a b : Addr} (D : Apt z TI TO i1 i2 a b) : ZipSep2 z TI TO i1 i2 [i1, a] [i2, b] where
  TIz := D.d1.1.symm
  TOz := D.d1.2.1.symm
  TITO := D.d2.1
  TIi1 := D.d2.2.1
  mem1 := List.mem_cons_self
  zf1 := by simp [D.d1.2.2.1, D.d1.2.2.2.2.1]
  Tf1 := by simp [D.d3.1, D.d3.2.2.1]
  TIi2 := D.d2.2.2
  mem2 := List.mem_cons_self
  zf2 := by simp [D.d1.2.2.2.1, D.d1.2.2.2.2.2]
  Tf2 := by simp [D.d3.2.1, D.d3.2.2.2]
  sep1_2 := by simp [D.d4.1, D.d4.2.2.1]
  sep2_1 := by simp [D.d4.1.symm, D.d4.2.2.2.1]
theorem turn_zipK {P : Program} {w : World} {K : PySem.W.Frag} {elts : List Expr} {kk : Nat} {tpos : Pos} {a b z TI TO i1 i2 : Addr} (k j : Kd) (D : Apt z TI TO i1 i2 a b) :
    Turn P w K (.Tuple elts kk tpos) (ItzK K k j a b) [z, TI, TO, i1, i2] z (fun i h => IsZip h z TI TO .none ∧ IsTupOf2 h TI (.ref i1) (.ref i2) ∧ (∃ x y, IsTupOf2 h TO x y) ∧ ItK k h i1 a i ∧ ItK j h i2 b i) where
  mem := List.mem_cons_self
  obj := fun i h ⟨hz, hTI, ⟨x, y, hTO⟩, h1, h2⟩ c hc => by
    obtain ⟨o1, v1, e1, d1⟩ := h1.obj
    obtain ⟨o2, v2, e2, d2⟩ := h2.obj
    simp only [List.mem_cons, List.not_mem_nil, or_false] at hc
    rcases hc with rfl | rfl | rfl | rfl | rfl
    · exact ⟨_, hz, fun v q => by cases q⟩
    · exact ⟨_, hTI, fun v q => by cases q⟩
    · exact ⟨_, hTO, fun v q => by cases q⟩
    · exact ⟨o1, e1, fun v q => by rw [d1] at q; cases q⟩
    · exact ⟨o2, e2, fun v q => by rw [d2] at q; cases q⟩
  keep := fun i h h' ⟨hz, hTI, ⟨x, y, hTO⟩, h1, h2⟩ g => ⟨g z (by simp) _ hz, g TI (by simp) _ hTI, ⟨x, y, g TO (by simp) _ hTO⟩, h1.at_ fun o q => g i1 (by simp) o q, h2.at_ fun o q => g i2 (by simp) o q⟩
  item := by
    intro X hP hw hK hc i pins s σ H E I hf ⟨hz, hTI, ⟨x0, y0, hTO⟩, h1, h2⟩ ⟨xs, ys, x, y, hqx, hqy, hx, hy⟩
    cases hP; cases hw; cases hK
    obtain ⟨its, rv, p⟩ := seqK I hqx
    obtain ⟨its2, rv2, p2⟩ := seqK I hqy
    obtain ⟨u, hu, ru⟩ := rv.get hx
    obtain ⟨u2, hu2, ru2⟩ := rv2.get hy
    have zl := Heap.lt_size hz
    have lt : ∀ {l : List Value} {v : Value}, l[i]? = some v → i < l.toArray.size := fun {l v} q => by
      rcases Nat.lt_or_ge i l.length with z | z
      · simpa using z
      · rw [List.getElem?_eq_none z] at q; cases q
    have D1 := drawsK (prog := X.prog) (w := X.w) (A := X.A.in1) (I.ok.hd hc) k i1 a (Ne.symm D.d4.2.1) its.toArray
    have D2 := drawsK (prog := X.prog) (w := X.w) (A := X.A.in1) (I.ok.hd hc) j i2 b (Ne.symm D.d4.2.2.2.2) its2.toArray
    refine wpAny_pyNext_zipD2_item D.sep D1 D2 hz hTI hTO ⟨h1, p⟩ ⟨h2, p2⟩ (lt hu) (lt hu2) fun v1 v2 h' tk hv1 hv2 z' TO' s1' s2' hT hsz hk => ?_
    have e1 : v1 = u := by
      have q : its.toArray[i]? = some v1 := hv1
      have q2 : its.toArray[i]? = some u := by simpa using hu
      rw [q] at q2; exact Option.some.inj q2
    have e2 : v2 = u2 := by
      have q : its2.toArray[i]? = some v2 := hv2
      have q2 : its2.toArray[i]? = some u2 := by simpa using hu2
      rw [q] at q2; exact Option.some.inj q2
    subst e1 e2
    refine ⟨_, rfl, wpAny_letOwnedTupleGo_zip (s := { s with heap := h', toks := tk }) z' fun h3 z3 sb => ?_⟩
    have hT2 : h3.get? s.heap.objs.size = some { cls := .type "tuple", data := .seq #[v1, v2] } := (sb.2 _ (Nat.ne_of_gt zl)).trans hT
    have new : ObjOk X.prog X.w (upd H s.heap.objs.size (.tup [x, y])) h3 s.heap.objs.size (.tup [x, y]) := ⟨by show 2 ≤ sizeLine; decide, [v1, v2], .cons ru (.cons ru2 .nil), ⟨_, hT2, rfl, _, rfl⟩⟩
    have kept : ∀ c o, c ∉ [z, TI, TO, i1, i2] → s.heap.get? c = some o → h3.get? c = some o := fun c o hn q => by
      simp only [List.mem_cons, List.not_mem_nil, or_false, not_or] at hn
      exact (sb.2 c hn.1).trans (hk c o hn.1 hn.2.2.1 hn.2.2.2.1 hn.2.2.2.2 q)
    have I1 : Inv X pins σ (upd H s.heap.objs.size (.tup [x, y])) { s with heap := h3, toks := tk } := I.turnedNew (ch := [z, TI, TO, i1, i2]) kept hf (Nat.le_refl _) new
    refine ⟨.ref s.heap.objs.size, _, I1, rfl, ⟨_, x, y, rfl, I.hok.fresh (Nat.le_refl _), rfl, fun l hl => by rw [seqK_inj I hl hqx]; exact hx, fun l hl => by rw [seqK_inj I hl hqy]; exact hy⟩, ⟨z3, ?_, ⟨v1, v2, ?_⟩, ?_, ?_⟩, fun c hcm => ?_⟩
    · exact (sb.2 _ D.d1.1.symm).trans (hk _ _ D.d1.1.symm D.d2.1 D.d2.2.1 D.d2.2.2 hTI)
    · exact (sb.2 _ D.d1.2.1.symm).trans TO'
    · exact s1'.1.at_ fun o q => (sb.2 _ D.d1.2.2.1.symm).trans q
    · exact s2'.1.at_ fun o q => (sb.2 _ D.d1.2.2.2.1.symm).trans q
    · have hlt : c < s.heap.objs.size := by
        obtain ⟨o1, _, g1, _⟩ := h1.obj
        obtain ⟨o2, _, g2, _⟩ := h2.obj
        have q := hcm
        simp only [List.mem_cons, List.not_mem_nil, or_false] at q
        rcases q with rfl | rfl | rfl | rfl | rfl
        · exact zl
        · exact Heap.lt_size hTI
        · exact Heap.lt_size hTO
        · exact Heap.lt_size g1
        · exact Heap.lt_size g2
      rw [upd_ne (Nat.ne_of_lt hlt)]
      exact (hf c hcm).1
  done := by
    intro X hP hw hK hc i pins s σ H E I hf ⟨hz, hTI, ⟨x0, y0, hTO⟩, h1, h2⟩ ⟨xs, ys, hqx, hqy, hend⟩
    cases hP; cases hw; cases hK
    obtain ⟨its, rv, p⟩ := seqK I hqx
    obtain ⟨its2, rv2, p2⟩ := seqK I hqy
    have l1 := rv.length
    have l2 := rv2.length
    have D1 := drawsK (prog := X.prog) (w := X.w) (A := X.A.in1) (I.ok.hd hc) k i1 a (Ne.symm D.d4.2.1) its.toArray
    have D2 := drawsK (prog := X.prog) (w := X.w) (A := X.A.in1) (I.ok.hd hc) j i2 b (Ne.symm D.d4.2.2.2.2) its2.toArray
    refine wpAny_pyNext_zipD2_end D.sep D1 D2 hz hTI hTO ⟨h1, p⟩ ⟨h2, p2⟩ (by simp; omega) (by simp; omega) (by simp; omega) fun h' tk hk => ⟨rfl, I.turnedL (t' := tk) (ch := [z, TI, TO, i1, i2]) (fun c o hn q => ?_) hf⟩
    simp only [List.mem_cons, List.not_mem_nil, or_false, not_or] at hn
    exact hk c o hn.1 hn.2.2.1 hn.2.2.2.1 hn.2.2.2.2 q
  self := fun A i s Q E st h => wpAny_pyIter_zip st.1 h
def iZipK (K : PySem.W.Frag) (ta : TA) : TI := fun σ H R => ta σ H fun vs H1 => ∃ k j a b xs ys, vs = [.ref a, .ref b] ∧ SqK K H1 k a xs ∧ SqK K H1 j b ys ∧ R (ItzK K k j a b) H1
theorem pi_zipK {X : Cx} {e e2 : Expr} {ta : TA} {p pos tpos : Pos} {elts : List Expr} {kk : Nat} (hg : Gl X "zip") (hm : X.mg "zip" = none) (ha : PA X [e, e2] ta)
    (hs : starEach [e, e2] X.env = (false, eval e X.env) :: starEach [e2] X.env) (hpl : (backTo pos (starEach [e2] X.env)).any (·.1) = false) :
    PI X (.Tuple elts kk tpos) (.Call (.Name "zip" p) [e, e2] [] pos) (iZipK X.K ta) := ⟨fun pins s σ H R I h => by
  refine Call_ (ld_blt I hg hm PyProof.Rows.boot_zip (PyProof.Rows.callWith_type1 (thn (ha.run pos pins s σ H _ I h) fun us s1 ⟨vs, H1, I1, r1, k, j, a, b, xs, ys, ex, hqx, hqy, q⟩ => ?_) hs hpl))
  subst ex
  obtain ⟨u, v, rfl, ru, rv'⟩ := vals2 r1
  obtain rfl : u = Value.ref a := ru
  obtain rfl : v = Value.ref b := rv'
  obtain ⟨its, rv, p1⟩ := seqK I1 hqx
  obtain ⟨its2, rv2, p2⟩ := seqK I1 hqy
  obtain ⟨o1, n1, g1, _⟩ := p1.obj
  obtain ⟨o2, n2, g2, _⟩ := p2.obj
  have la := Heap.lt_size g1
  have lb := Heap.lt_size g2
  refine zip_begins2 (beginsK k a its.toArray) (beginsK j b its2.toArray) p1 p2 fun h' hz hTI hTO e1 e2 hsz hk => wpAny_pyIter_zip hz ?_
  refine ⟨s1.heap.objs.size + 4, [s1.heap.objs.size + 4, s1.heap.objs.size + 2, s1.heap.objs.size + 3, s1.heap.objs.size, s1.heap.objs.size + 1], _, _, H1, rfl, I1.kept (t' := s1.toks) hk, turn_zipK k j (apt_at _ _ _ la lb), ⟨hz, hTI, ⟨_, _, hTO⟩, .start e1, .start e2⟩, fun c hcm => ?_, q⟩
  have hle : s1.heap.objs.size ≤ c := by
    simp only [List.mem_cons, List.not_mem_nil, or_false] at hcm
    rcases hcm with z | z | z | z | z
    · rw [z]; exact Nat.le_add_right _ _
    · rw [z]; exact Nat.le_add_right _ _
    · rw [z]; exact Nat.le_add_right _ _
    · rw [z]; exact Nat.le_refl _
    · rw [z]; exact Nat.le_add_right _ _
  exact I1.fpOk hle (I1.hok.fresh hle)⟩
/-! ### walked as data -/
/-- what keeps a sequence told: a tuple stays, a list while it is told so -/
def GS (d : D) (ds : List D) : Mm → Prop := match d with
  | .ref a => fun M => M a = some (.lst ds) ∨ M a = some (.rol ds)
  | _ => fun _ => True
theorem seqI_K {K : PySem.W.Frag} {M : Mm} {H : Hp} {d : D} {v : V} {Q : List D → (Mm → Prop) → Mm → Prop} (m : RelM K M H) (r : Rep K H d v) (h : seqI d M Q) :
    ∃ k a vs ds, v = .ref a ∧ SqK K H k a vs ∧ Reps K H ds vs ∧ Q ds (GS d ds) M ∧ ∀ M' H', TX H H' → RelM K M' H' → GS d ds M' → ∃ ws, SqK K H' k a ws ∧ Reps K H' ds ws := by
  cases d with
  | tup ds =>
    obtain ⟨p, vs, rfl, s, q⟩ := r.tup_inv
    exact ⟨.t, p, vs, ds, rfl, s, q, h, fun M' H' e _ _ => ⟨vs, e.sq s, q.mono e⟩⟩
  | ref a =>
    cases r
    obtain ⟨ds, hm, h⟩ := h
    obtain ⟨vs, s, q⟩ := m.sq hm
    exact ⟨.l, a, vs, ds, rfl, s, q, h, fun M' H' e m' g => m'.sq g⟩
  | _ => exact h.elim
section
variable {K : PySem.W.Frag} {H0 : Hp}
theorem walkR_enmK {k : Kd} {a : Addr} {ds : List D} {G : Mm → Prop} (h : ∀ M' H', TX H0 H' → RelM K M' H' → G M' → ∃ ws, SqK K H' k a ws ∧ Reps K H' ds ws) : WalkR K H0 (IteK K k a) (enmD 0 ds) G := by
  refine ⟨fun H => ∃ ws, SqK K H k a ws ∧ Reps K H ds ws, fun i H v H' => ∃ T x vs, v = .ref T ∧ H T = none ∧ H' = upd H T (.tup [.int (i : Nat), x]) ∧ Reps K H ds vs ∧ vs[i]? = some x, ⟨?_, ?_, ?_⟩, fun M H e m g => h M H e m g, ?_⟩
  · rintro i H hi ⟨vs, s, r⟩
    rw [enmD_len] at hi
    obtain ⟨x, hx⟩ := get_lt r hi
    exact ⟨vs, x, s, hx⟩
  · rintro H ⟨vs, s, r⟩
    exact ⟨vs, s, by rw [enmD_len, r.length]⟩
  · rintro i H x H' hi ⟨vs, s, r⟩ ⟨T, y, h1, h2, h3, h4⟩
    exact ⟨T, y, vs, h1, h2, h3, r, h4 vs s⟩
  · rintro i H x H' d _ hd ⟨T, y, vs, rfl, hT, rfl, r, hx⟩
    obtain ⟨e, h1, rfl⟩ := enmD_get hd
    obtain ⟨a1, a2, a3, a4⟩ := pair_new (K := K) hT (.int ((i : Nat) : Int)) (rep_at r h1 hx)
    exact ⟨a1, a2, a3, by rw [Nat.zero_add]; exact a4⟩
theorem walkR_zipK {k j : Kd} {a b : Addr} {ds es : List D} {G G' : Mm → Prop} (h : ∀ M' H', TX H0 H' → RelM K M' H' → G M' → ∃ ws, SqK K H' k a ws ∧ Reps K H' ds ws) (h' : ∀ M' H', TX H0 H' → RelM K M' H' → G' M' → ∃ ws, SqK K H' j b ws ∧ Reps K H' es ws) :
    WalkR K H0 (ItzK K k j a b) (zipD ds es) (fun M => G M ∧ G' M) := by
  refine ⟨fun H => (∃ ws, SqK K H k a ws ∧ Reps K H ds ws) ∧ ∃ ws, SqK K H j b ws ∧ Reps K H es ws, fun i H v H' => ∃ T x y vs ws, v = .ref T ∧ H T = none ∧ H' = upd H T (.tup [x, y]) ∧ Reps K H ds vs ∧ Reps K H es ws ∧ vs[i]? = some x ∧ ws[i]? = some y, ⟨?_, ?_, ?_⟩, fun M H e m g => ⟨h M H e m g.1, h' M H e m g.2⟩, ?_⟩
  · rintro i H hi ⟨⟨vs, s, r⟩, ws, t, q⟩
    rw [zipD_len] at hi
    obtain ⟨x, hx⟩ := get_lt r (Nat.lt_of_lt_of_le hi (Nat.min_le_left _ _))
    obtain ⟨y, hy⟩ := get_lt q (Nat.lt_of_lt_of_le hi (Nat.min_le_right _ _))
    exact ⟨vs, ws, x, y, s, t, hx, hy⟩
  · rintro H ⟨⟨vs, s, r⟩, ws, t, q⟩
    exact ⟨vs, ws, s, t, by rw [zipD_len, r.length, q.length]⟩
  · rintro i H x H' hi ⟨⟨vs, s, r⟩, ws, t, q⟩ ⟨T, x1, y1, h1, h2, h3, h4, h5⟩
    exact ⟨T, x1, y1, vs, ws, h1, h2, h3, r, q, h4 vs s, h5 ws t⟩
  · rintro i H x H' d _ hd ⟨T, x1, y1, vs, ws, rfl, hT, rfl, r, q, hx, hy⟩
    obtain ⟨u, v, h1, h2, rfl⟩ := zipD_get hd
    exact pair_new (K := K) hT (rep_at r h1 hx) (rep_at q h2 hy)
end
end DL
namespace DL
open PySem PySem.Spec L2

theorem Good.blk {CX : CXT} {X : Cx} {T : Tb} {Γ : Gm} {W : WX} {lv : Nat} (G : Good CX X T Γ W lv) (hcm : T.calm = true) (s : Shared) (H : Hp) (scope : Scope) (C : Addr) (cl : List (Str × Addr)) (fp : List Addr) :
    Good CX (X.blk s H scope (compEnvC scope cl C X.env) fp) (T.blk scope) Γ W0 lv where
  n := G.n
  nd := G.nd
  calm := fun _ => G.calm hcm
  sc := by
    show relabel scope X.env = relS scope T.sc
    unfold relabel relS PySem.Env.kindOf
    rw [G.sc]
  room := fun _ => G.room hcm
  hu := (G.room hcm).units
  fn := fun h => by cases h
  xn := G.xn
  gcd := G.gcd
  glob := G.glob
  fld := G.fld
  kwc := G.kwc
  mt := G.mt
  pr := G.pr
  isi := G.isi
  nf := G.nf
  kwm := G.kwm
  xfl := G.xfl
  sub := G.sub
  exn := fun z => absurd (show T.calm = false from z) (by rw [hcm]; decide)
  pass := fun σ pins H' s' e s'' _ c => absurd c (G.cx0 _ _ _ _ _)
  cx0 := G.cx0
section
variable {CX : CXT} {Γ : Gm} {lv : Nat}
theorem wipe_at (τ : St) (vs : List Nat) : ∀ (i : Nat), (wipe τ vs)[i]? = if i ∈ vs then (if i < τ.length then some none else none) else τ[i]? := by
  induction vs with
  | nil => intro i; simp [wipe]
  | cons v vs ih =>
    intro i
    unfold wipe
    by_cases hi : v = i
    · subst hi
      rw [if_pos List.mem_cons_self, List.getElem?_set_self', ih]
      by_cases hv : v < τ.length
      · rw [if_pos hv]
        by_cases hm : v ∈ vs
        · rw [if_pos hm]; rfl
        · rw [if_neg hm]; simp [hv]
      · rw [if_neg hv]
        by_cases hm : v ∈ vs
        · rw [if_pos hm]; rfl
        · rw [if_neg hm, List.getElem?_eq_none (by omega)]; rfl
    · rw [List.getElem?_set_ne hi, ih]
      simp [Ne.symm hi]
theorem wipe_ext {σ σ' : St} (hl : σ'.length = σ.length) (vs : List Nat) (h : ∀ i, i ∉ vs → σ'[i]? = σ[i]?) : wipe σ' vs = wipe σ vs := by
  apply List.ext_getElem?
  intro i
  rw [wipe_at, wipe_at, hl]
  by_cases hi : i ∈ vs
  · rw [if_pos hi, if_pos hi]
  · rw [if_neg hi, if_neg hi, h i hi]
theorem wipe_back {σ σ2 : St} {vs ss : List Nat} (hs : ∀ i ∈ ss, i ∈ vs) (hl : σ2.length = (wipe σ vs).length) (h : ∀ i, i ∉ ss → σ2[i]? = (wipe σ vs)[i]?) : wipe σ2 vs = wipe σ vs := by
  refine wipe_ext (hl.trans (wipe_length σ vs)) vs fun i hi => ?_
  rw [h i fun z => hi (hs i z), wipe_at, if_neg hi]
theorem wipe_rel {K : PySem.W.Frag} {H : Hp} {ρ : DEnv} {σ : St} (r : RelE K H ρ σ) : ∀ vs, RelE K H (wipeD ρ vs) (wipe σ vs)
  | [] => r
  | v :: vs => by
    have q := wipe_rel r vs
    refine ⟨by simp [wipe, wipeD, q.len], fun i d h => ?_⟩
    unfold wipeD at h
    unfold wipe
    by_cases hi : v = i
    · subst hi
      rw [List.getElem?_set_self'] at h
      cases z : (wipeD ρ vs)[v]? with
      | none => rw [z] at h; cases h
      | some _ => rw [z] at h; cases h
    · rw [List.getElem?_set_ne hi] at h ⊢
      exact q.at_ i d h
theorem wipe_len (σ : St) (vs : List Nat) : (wipe σ vs).length = σ.length := wipe_length σ vs
/-- the comprehension's turns -/
theorem comp_ok {K : PySem.W.Frag} {H0 : Hp} {J : It} {items : List D} {G : Mm → Prop} (w : WalkR K H0 J items G) {g : TG} {tt : TT} {te : TE} {own : List Nat} {σ : St} {ρ : DEnv} {M0 : Mm} {p : Addr} {Qd : Hp → Prop} {Qm : Mm → Prop}
    {step : D → Mm → (Option D → Mm → Prop) → Prop}
    (R : Rel K ρ M0 σ H0) (hp : H0 p = none) (h : compL G p step items [] (M0.put p (.lst [])) Qm) (fin : ∀ (M : Mm) (H : Hp), TX H0 H → RelM K M H → Qm M → Qd H)
    (turn : ∀ (d : D) (x : V) (M : Mm) (H H' : Hp) (Kk : Option D → Mm → Prop) (Nx : Option V → Hp → Prop), TX H0 H' → RelM K M H' → Rep K H' d x → step d M Kk →
      (∀ (r : Option D) (M' : Mm) (v : Option V) (H'' : Hp), TX H0 H'' → RelM K M' H'' → (match r, v with | none, none => True | some d, some v => Rep K H'' d v | _, _ => False) → Kk r M' → Nx v H'') →
      g x (wipe σ own) H' fun σ2 H2 => wipe σ2 own = wipe σ own ∧ tt σ2 H2 fun b H3 => if b = true then te σ2 H3 fun y H4 => Nx (some y) H4 else Nx none H3) :
    ∃ W : Nat → Nat → Hp → Prop, (∃ m, W 0 m (upd H0 p (.lst []))) ∧ ∀ i m H, W i m H →
      (J.stop i H ∧ Qd H) ∨ (J.go i H ∧ ∃ Nx : Hp → Prop, (∀ H', Nx H' → ∃ m', m' < m ∧ W (i + 1) m' H') ∧ ∀ x H', J.yld i H x H' → g x (wipe σ own) H' fun σ2 H2 => wipe σ2 own = wipe σ own ∧ tt σ2 H2 fun b H3 =>
        if b = true then te σ2 H3 fun y H4 => ∃ acc, H4 p = some (.lst acc) ∧ acc.length < sizeLine ∧ Nx (upd H4 p (.lst (acc ++ [y]))) else Nx H3) := by
  obtain ⟨GH, Y, wk, hG, hY⟩ := w.ex
  let Pv : Nat → Hp → Prop := fun i H => TX H0 H ∧ ∃ acc M, RelM K M H ∧ compL G p step (items.drop i) acc M Qm
  refine ⟨fun i m H => m = items.length - i ∧ i ≤ items.length ∧ Pv i H, ⟨_, rfl, Nat.zero_le _, TX.new hp, [], _, R.mem.newL hp .nil, by rw [List.drop_zero]; exact h⟩, ?_⟩
  rintro i m H ⟨rfl, hi, e, acc, M, mm, c⟩
  by_cases hlt : i < items.length
  · have hd : items.drop i = items[i] :: items.drop (i + 1) := List.drop_eq_getElem_cons hlt
    rw [hd] at c
    simp only [compL] at c
    obtain ⟨cg, c⟩ := c
    have gh := hG M H e mm cg
    refine .inr ⟨wk.goes i H hlt gh, Pv (i + 1), fun H' p' => ⟨items.length - (i + 1), by omega, rfl, hlt, p'⟩, fun x H' y => ?_⟩
    obtain ⟨e1, k1, _, rx⟩ := hY i H x H' items[i] e (by simp [hlt]) (wk.yields i H x H' hlt gh y)
    have T := turn items[i] x M H H' _ (fun v H'' => match v with
      | some y => ∃ acc, H'' p = some (.lst acc) ∧ acc.length < sizeLine ∧ Pv (i + 1) (upd H'' p (.lst (acc ++ [y])))
      | none => Pv (i + 1) H'') (e.trans e1) (k1 M mm) rx c fun r M' v H'' e2 m2 rv q => ?_
    · exact T
    · match r, v, rv, q with
      | none, none, _, q => exact ⟨e2, acc, M', m2, q⟩
      | some d, some v, rv, q =>
        obtain ⟨q1, q2, q3⟩ := q
        obtain ⟨vs, h1, h2⟩ := m2 _ _ q1
        exact ⟨vs, h1, by rw [← h2.length]; exact q2, e2.trans (TX.put h1 (fun _ z => by cases z) (fun _ _ z => by cases z)), acc ++ [d], _, m2.putL h1 (h2.append (.cons rv .nil)), q3⟩
  · have ei : i = items.length := by omega
    subst ei
    rw [List.drop_length] at c
    simp only [compL] at c
    exact .inl ⟨wk.stops H (hG M H e mm c.1), fin M H e mm c.2.2⟩
end
end DL
namespace DL
section
open PySem PySem.W PySem.Spec PySem.Calls PyProof.Rows
variable {prog : Program} {w : World} {A : Around} {E : Value → Shared → Prop} {s : Shared} {K : Frag} {x D : Addr} {ox : Obj} {od : Option Obj}
theorem findE (T : L2.ExcC K D) : findObj K D od "__class__" = some (.bind (.builtin "getset_descriptor.__get__") (.builtin "object.__class__")) := by
  cases od with
  | some o => exact findObj_data (by obtain ⟨cd, hc, _⟩ := any_some T.hd; rw [hc] <;> rfl) T.ha T.hn T.ht
  | none => exact findObj_dataN (by obtain ⟨cd, hc, _⟩ := any_some T.hd; rw [hc] <;> rfl) T.ha T.hn T.ht
theorem kinE {Q : Option Value → Shared → Prop} (T : L2.ExcC K D) (X : K.In s.heap) (I : InstAt s.heap x ox D od) (h : Q (some (.ref D)) { s with toks := s.toks + 1 }) : wpAny (model prog w) A (getAttr? (.ref x) "__class__") Q E s := by
  have hf := findE (od := od) T
  obtain ⟨hp, g, d, t, os⟩ := s
  have l0 := I.type (M := model prog w); have l1 := looks_findIn (M := model prog w) X T.hg
  have l2 := looks_findIn (M := model prog w) X T.hk; have l3 := looks_find (M := model prog w) X I hf
  have sub : Looks (model prog w) hp (isInstance (.ref x) (.type "BaseException")) true := (l0.andThen (looks_subIn X T.hs))
  have q2 : (Value.builtin "BaseException.__getattribute__" == Value.builtin "object.__getattribute__") = false := by decide +kernel
  have q1 : (onTheHeap (Value.ref D) && Value.builtin "BaseException.__getattribute__" == Value.builtin "object.__getattribute__") = false := by rw [q2]; rfl
  unfold getAttr? getAttrBy? getAttrBy
  refine wpAny_bind (wpAny_mkText (wpAny_bind (wpAny_attempt (wpAny_holding (wpAny_bind (l0.at (wpAny_bind (l1.at ?_))))))))
  show wpAny _ _ (if ((onTheHeap (Value.ref D) && Value.builtin "BaseException.__getattribute__" == Value.builtin "object.__getattribute__")) = true then _ else _) _ _ _
  rw [q1, if_neg Bool.false_ne_true]; unfold getAttrByItsOwn hookBefore
  refine wpAny_bind ?_; rw [if_pos (show onTheHeap (Value.ref D) = true from rfl)]
  refine l2.at ?_; refine wpAny_bind (wpAny_attempt (wpAny_holding ?_)); unfold callGetattribute
  rw [show (false && onTheHeap (Value.builtin "BaseException.__getattribute__")) = false from rfl, if_neg Bool.false_ne_true]; unfold boundAndCalled
  rw [PySem.F.excAttr_ValueError.ga.bind (.ref x)]; refine wpAny_bind (wpAny_pure ?_)
  show wpAny _ _ (call (.builtin "BaseException.__getattribute__") [(.ref x), .str "__class__" t]) _ _ _
  refine wpAny_call (codeAny_call_builtin PySem.F.excAttr_ValueError.ga.plain (PySem.F.entry_bexc_ga) ?_)
  refine @check_slot (model prog w) _ _ ⟨hp, g, d, t + 1, os⟩ "BaseException.__getattribute__" "BaseException" "__getattribute__" (.ref x) [(.str "__class__" t)] [] _ (by decide +kernel) (by decide +kernel) sub (PySem.F.args_bexc_ga (.ref x) (.str "__class__" t)) ?_
  unfold Builtin.«object.__getattribute__»
  refine wpAny_bind (wpAny_of_eq (a := ((Value.ref x : Value), [Value.str "__class__" t])) (by first | rfl | (simp only [slotArgs] <;> rfl)) ?_)
  refine wpAny_bind (wpAny_pure (wpAny_bind (l0.at (wpAny_bind (l3.at ?_)))))
  show wpAny _ _ (holding [(Value.builtin "object.__class__")] (call (.builtin "getset_descriptor.__get__") [.builtin "object.__class__", .ref x, .ref D]) >>= ret) _ _ _
  refine wpAny_bind (wpAny_holding (wpAny_call (class_get (s := ⟨hp, g, d, t + 1, os⟩) (ox := ox) (od := od) X I T.hm ?_)))
  refine wpAny_pure ?_; show wpAny _ _ (handedOut (.ref D)) _ _ _
  rw [handedOut_of (v := .ref D) (by rfl)]
  first | exact (wpAny_pure (wpAny_pure h)) | exact (wpAny_pure h) | exact (wpAny_pure (wpAny_bind (wpAny_pure (wpAny_pure h))))
theorem kitE (T : L2.ExcC K D) : KitX K (.ref x) (.ref D) (fun h => ∃ od, InstAt h x ox D od) where
  ty := fun _ _ _ ⟨_, I⟩ => I.type
  it := fun _ _ X _ => by
    obtain ⟨cdD, hcD, _⟩ := any_some T.hd
    unfold clsIn at hcD; split at hcD
    · rename_i c' d' cd' sl' ho
      intro A' Q' E' s' k q; unfold isType loadHead
      exact (wpAny_bind (wpAny_loadPart (k _ _ (X _ _ ho)) (wpAny_pure q)))
    · cases hcD
  ne := fun h tp dd its n sl X htp => by
    obtain ⟨cdD, hcD, _⟩ := any_some T.hd
    refine Bool.eq_false_iff.mpr fun q => ?_
    have e : D = tp := Value.ref.inj (beq_iff_eq.mp q)
    subst e; unfold clsIn at hcD; split at hcD
    · rename_i c' d' cd' sl' ho
      have z := (X _ _ ho).symm.trans htp; cases z
    · cases hcD
  ca := fun X ⟨_, I⟩ k => kinE T X I k
end
open PySem PySem.Spec L2
/-- isinstance(e, c), e the exception that the suite holds, with or without a dict -/
theorem call_isX {X : Cx} {a D : Addr} {dx : Option Addr} {oe : Obj} {pn : List (Addr × Obj)} (C : ExcC X.K D) (hz : Zc (.ref D) dx oe) (hf : ∃ vs, oe.data = .fields vs) :
    CallR (X.suite a ((a, oe) :: pn)) (.builtin "isinstance") (fun xs H Q => (∀ dd, dx = some dd → ∃ fs, H dd = some (.xd fs)) ∧ rIsE X.K D a xs H Q) := by
  intro pins s σ H xs us Q I r h
  obtain ⟨hdx, c, cv, b, rfl, hcv, e, q⟩ := h
  cases r with
  | cons rx rr =>
    cases rr with
    | cons rt rr =>
      cases rr
      cases rx
      have ec := hcv _ rt
      subst ec
      obtain ⟨hget, _⟩ := I.pin (a, oe) (List.mem_append.mpr (.inl List.mem_cons_self))
      obtain ⟨vs, hv⟩ := hf
      have J : ∃ od, PySem.W.InstAt s.heap a oe D od := by
        obtain ⟨oc, od, oda, osl⟩ := oe
        obtain ⟨h1, h2⟩ := hz
        dsimp only at h1 h2 hv
        subst h1 h2 hv
        cases od with
        | none => exact ⟨none, hget, rfl, rfl, trivial⟩
        | some dd =>
          obtain ⟨fs, hx⟩ := hdx dd rfl
          have hx : ObjOk X.prog X.w H s.heap dd (.xd fs) := I.hok dd _ hx
          obtain ⟨mA, hns, hr⟩ := hx
          obtain ⟨o, ho, hl⟩ := L2.lookIn_ns hns
          exact ⟨some o, hget, rfl, rfl, ho⟩
      exact PySem.W.kia_one (kitE C) I.kIn J e (fun z => nomatch z) fun tk => ⟨.bl b, H, I.kept (t' := tk) fun _ _ z => z, rfl, q⟩
section
variable {CX : CXT} {X : Cx} {T : Tb} {Γ : Gm} {W : WX} {lv : Nat}
theorem xis_ok (G : Good CX X T Γ W lv) {g : Nat} {ta : TD} {a' : Expr} {y : Str} {p py pos : Pos} (ha : PE X a' (lift X.K W ta)) (hst : ∀ es, starEach (a' :: es) X.env = (false, eval a' X.env) :: starEach es X.env)
    (hcm : T.calm = false) (hxn : T.xn.contains ("isinstance" : Str) = true) (hgx : Gl X "isinstance") (hgn : (match T.gn[g]? with | some (z, _) => decide (y = z) | _ => false) = true) (hgy : Gl X y) (hpl : (y == ("__debug__" : Str)) = false) :
    PE X (.Call (.Name "isinstance" p) [a', .Name y py] [] pos) (lift X.K W (fun ρ M E Q => ta ρ M E fun x M1 => xisD Γ g x M1 Q)) := by
  have nm : X.mg "isinstance" = none := G.xn _ (by simpa using hxn)
  have dead : (∀ x M1 Q, ¬ xisD Γ g x M1 Q) → PE X (.Call (.Name "isinstance" p) [a', .Name y py] [] pos) (lift X.K W (fun ρ M E Q => ta ρ M E fun x M1 => xisD Γ g x M1 Q)) := fun hd => by
    have A := pa_cons ha (pa_cons (PE.never (e := .Name y py) (t := fun _ _ _ => False) fun _ _ _ h => h) pa_nil rfl) (hst _)
    refine PE.imp (pe_callB (id := "isinstance") (r := fun _ _ _ => False) (fun _ _ _ _ _ _ _ _ _ h => h.elim) hgx nm (by decide +kernel) A (by decide) (by decide) (hst _) rfl) fun σ H Q q => ?_
    obtain ⟨ρ, M, E, Qd, R, t, k, x⟩ := q
    exact ⟨ρ, M, E, _, R, t, fun d M1 v H1 e1 R1 r1 t1 => absurd t1 (hd _ _ _), x⟩
  cases hgg : T.gn[g]? with
  | none => rw [hgg] at hgn; cases hgn
  | some zo =>
    obtain ⟨z, o⟩ := zo
    rw [hgg] at hgn
    have hyz : y = z := by simpa using hgn
    subst hyz
    have go := G.glob g y o hgg
    cases hcl : (Γ.gv g).clsOf with
    | none => exact dead fun x M1 Q h => by unfold xisD at h; rw [hcl] at h; split at h <;> first | (rename_i z; cases z; done) | exact h | contradiction
    | some C' =>
      have hm : X.mg y = some (.ref C') := by
        cases gv : Γ.gv g with
        | fn n sp dfl => rw [gv] at hcl; cases hcl
        | val d => rw [gv] at hcl; cases hcl
        | err C fs tx =>
          rw [gv] at hcl go; cases hcl
          cases o with
          | none => exact go.1
          | some nk => exact go.elim
        | cls C =>
          rw [gv] at hcl go; cases hcl
          cases o with
          | none => exact go
          | some nk => exact go.elim
        | cla C i => rw [gv] at hcl; cases hcl
      cases hx : Γ.exn with
      | none => exact dead fun x M1 Q h => by unfold xisD at h; rw [hx] at h; split at h <;> first | contradiction | exact h
      | some q =>
        obtain ⟨b, C, dx⟩ := q
        cases hsb : Γ.sub C C' with
        | none =>
          refine dead fun x M1 Q h => ?_
          unfold xisD at h
          rw [hx, hcl] at h
          cases x <;> first | exact h | (obtain ⟨_, _, k, h, _⟩ := h; rw [hsb] at h; cases h)
        | some kk =>
          obtain ⟨Y, oe, pn, rfl, hz, hf⟩ := G.exn hcm b C dx hx
          obtain ⟨hC, hk, _⟩ := G.sub _ _ _ hsb
          have A := pa_cons ha (pa_cons (pe_glob (pos := py) (v := .ref C') hgy hm rfl hpl) pa_nil rfl) (hst _)
          refine PE.imp (pe_callB (id := "isinstance") (call_isX hC hz hf) hgx nm (by decide +kernel) A (by decide) (by decide) (hst _) rfl) fun σ H Q q => ?_
          refine lift1 (r := fun x H1 Q => (∀ dd, dx = some dd → ∃ fs, H1 dd = some (.xd fs)) ∧ rIsE Y.K C b [x, .ref C'] H1 Q) (rd := fun x M1 E Q => xisD Γ g x M1 Q) q fun d v M1 H1 ρ E Qd R r1 t k x => ?_
          unfold xisD at t
          rw [hx, hcl] at t
          cases d <;> try (exact t.elim)
          cases r1
          obtain ⟨rfl, hdd, k2, e2, t⟩ := t
          rw [hsb] at e2
          cases e2
          refine ⟨fun dd e => ?_, .ref C', .ref C', kk, rfl, fun u r => r, hk, k _ _ _ _ (TX.refl _) R (.bl kk) t⟩
          obtain ⟨fs, hfs⟩ := hdd dd e
          obtain ⟨vfs, h4, _⟩ := R.mem _ _ hfs
          exact ⟨vfs, h4⟩
end
theorem Reps.rev {K : PySem.W.Frag} {H : Hp} : ∀ {ds : List D} {vs : List V}, Reps K H ds vs → Reps K H ds.reverse vs.reverse
  | _, _, .nil => .nil
  | _, _, .cons r t => by
    rw [List.reverse_cons, List.reverse_cons]
    exact (Reps.rev t).append (.cons r .nil)
theorem strsD_eq {K : PySem.W.Frag} {H : Hp} : ∀ {ds : List D} {ns : List Str} {vs : List V}, strsD ds = some ns → Reps K H ds vs → vs = ns.map V.str
  | [], ns, vs, h, r => by cases r; simp only [strsD, Option.some.injEq] at h; subst h; rfl
  | d :: ds, ns, vs, h, r => by
    cases d <;> simp only [strsD] at h <;> try (cases h; done)
    rename_i i
    cases q : strsD ds with
    | none => rw [q] at h; cases h
    | some ms =>
      rw [q] at h; cases h
      cases r with
      | cons a b => cases a; rw [strsD_eq q b]; rfl
def liftJ (K : PySem.W.Frag) (W : WX) (td : DEnv → Mm → EK → (Str → Mm → Prop) → Prop) : St → Hp → (Str → Hp → Prop) → Prop := fun σ H Q => ∃ ρ M E Qd, Rel K ρ M σ H ∧ td ρ M E Qd ∧
  (∀ out M' H', TX H H' → Rel K ρ M' σ H' → Qd out M' → Q out H') ∧
  (∀ x M' cls dd H', TX H H' → Rel K ρ M' σ H' → RelX K H' x cls dd → E x M' → W cls dd σ H')
theorem smt_imp {K : PySem.W.Frag} {W : WX} {ta te : TD} {m : Sme} {r : V → List V → Hp → VK → Prop} {σ : St} {H : Hp} {Q : VK}
    (q : lift K W (fun ρ M E Q => ta ρ M E fun x M1 => (∃ z, x = .str z) ∧ te ρ M1 E fun y M2 => smtD m x y M2 Q) σ H Q)
    (f : ∀ x y v u M2 H2, RelM K M2 H2 → Rep K H2 x v → Rep K H2 y u → ∀ (Q' : VK) (Qd : QD), smtD m x y M2 Qd → (∀ {d : D} (v : V), Rep K H2 d v → Qd d M2 → Q' v H2) → r v [u] H2 Q') : tM1 r (lift K W ta) (lift K W te) σ H Q := by
  obtain ⟨ρ, M, E, Qd, R, t, k, x⟩ := q
  refine ⟨ρ, M, E, _, R, t, fun d M1 v H1 e1 R1 r1 t1 => ?_, x⟩
  obtain ⟨⟨z, rfl⟩, t1⟩ := t1
  have e : v = .str z := by cases r1; rfl
  refine ⟨⟨z, e⟩, ρ, M1, E, _, R1, t1, fun y M2 u H2 e2 R2 r2 t2 => ?_, fun x' M' c dd H' e' => x x' M' c dd H' (e1.trans e')⟩
  exact f _ _ _ _ M2 H2 R2.mem (r1.mono e2) r2 Q Qd t2 fun v r q => k _ _ _ _ (e1.trans e2) R2 r q
theorem PK.imp {X : Cx} {e : List Keyword} {t t' : TA} (h : PK X e t) (i : ∀ σ H Q, t' σ H Q → t σ H Q) : PK X e t' := ⟨fun pos pins s σ H Q I q => h.run pos pins s σ H Q I (i σ H Q q)⟩
theorem kw_all (pos : Pos) (env : PySem.Env) : ∀ {kws : List Keyword} {ks : List Str}, kws.map (·.arg) = ks.map some → (backToKw pos (keywordEach kws env)).all (·.1.isSome) = true ∧ (backToKw pos (keywordEach kws env)).filterMap (·.1) = ks ∧ (backToKw pos (keywordEach kws env)).any (·.1.isNone) = false
  | [], [], _ => ⟨rfl, rfl, rfl⟩
  | [], _ :: _, h => by cases h
  | _ :: _, [], h => by cases h
  | ⟨a, v, p⟩ :: kws, k :: ks, h => by
    simp only [List.map_cons, List.cons.injEq] at h
    obtain ⟨rfl, h⟩ := h
    obtain ⟨a1, a2, a3⟩ := kw_all pos env h
    have e : backToKw pos (keywordEach (⟨some k, v, p⟩ :: kws) env) = (some k, (do let v ← eval v env; standAt pos; pure v)) :: backToKw pos (keywordEach kws env) := rfl
    rw [e]
    refine ⟨?_, ?_, ?_⟩
    · rw [List.all_cons, a1]; rfl
    · rw [List.filterMap_cons]; simp only []; rw [a2]
    · rw [List.any_cons, a3]; rfl
section
variable {CX : CXT} {X : Cx} {T : Tb} {Γ : Gm} {W : WX} {lv : Nat}
theorem run_kw {k np : Nat} {f : Addr} {fd : FuncData} {ps ks : List Str} {sp : Sp} {E : St → XK} {g : List Value → List Value → List Value} {gV : List V → List V → List V} {pins : List (Addr × Obj)} {σ : St} {H : Hp} {s : Shared} {Q : VK} {us ws : List Value} {vs zs : List V}
    (F : FnOk X.prog X.w X.K X.mg X.base CX k f fd ps sp) (hr : Room k X.A) (hb : KBn X.K fd ps np ks g gV) (hx : PassesAt CX X σ (E σ)) (I : Inv X pins σ H s) (r : Vals vs us) (rz : Vals zs ws) (l1 : vs.length = np) (l2 : zs.length = ks.length) (h : sp (gV vs zs) H Q (E σ)) :
    wpAny (model X.prog X.w) X.A (call (.ref f) us (ks.zip ws)) (EP X pins σ Q) X.xe s := by
  refine wpAny_call (codeAny_mono (F.run X.A X.stack s H ⟨us, ks.zip ws⟩ (g us ws) (gV vs zs) Q (E σ) hr I.env0 (hb.to s us ws I.kIn (r.length.symm.trans l1) (rz.length.symm.trans l2)) (hb.rel r rz) h) fun q s' hq => ?_)
  cases q with
  | error e => exact hx pins H s e s' I hq
  | ok fl =>
    cases fl with
    | ret u => exact I.after hq
    | next => exact hq.elim
    | brk => exact hq.elim
    | cont => exact hq.elim
theorem kw_ok (G : Good CX X T Γ W lv) (hcm : T.calm = true) {g np : Nat} {x : Str} {nk : Nat × Nat} {ks : List Str} {ta tz : TDs} {es : List Expr} {kws : List Keyword} {p pos : Pos} (hg : T.gn[g]? = some (x, some nk)) (hgl : Gl X x) (hpl : (x == ("__debug__" : Str)) = false)
    (ha : PA X es (liftA X.K W ta)) (hz : PK X kws (liftA X.K W tz)) (hks : kws.map (·.arg) = ks.map some)
    (hes : (es = [] ∧ ∀ ρ M E Q, ta ρ M E Q → Q [] M) ∨ ∃ e r, es = e :: r ∧ starEach (e :: r) X.env = (false, eval e X.env) :: starEach r X.env ∧ (starEach (e :: r) X.env).any (·.1) = false) :
    PE X (.Call (.Name x p) es kws pos) (lift X.K W fun ρ M E Q => (Γ.kwc g np ks).isSome = true ∧ ta ρ M E fun ds M1 => tz ρ M1 E fun ws M2 => kwD Γ g np ks ds ws M2 E Q) := by
  cases hk : Γ.kwc g np ks with
  | none => exact PE.never fun σ H Q ⟨ρ, M, E, Qd, R, ⟨t, _⟩, _⟩ => by simp at t
  | some pat =>
    have go := G.glob g x _ hg
    cases gv : Γ.gv g with
    | val d => rw [gv] at go; exact go.elim
    | err C fs tx => rw [gv] at go; exact go.elim
    | cls C => rw [gv] at go; exact go.elim
    | cla C i => rw [gv] at go; exact go.elim
    | fn n' sp dfl =>
      obtain ⟨f, fd, ps, gg, gV, F, hm, hkp, hb, hrel⟩ := G.kwc g x nk np ks pat n' sp dfl hg gv hk
      obtain ⟨a1, a2, a3⟩ := kw_all pos X.env hks
      have core : ∀ {pins : List (Addr × Obj)} {σ : St} {Q : VK} {ρ : DEnv} {E : EK} {Qd : QD} {M1 : Mm} {H0 H1 : Hp} {s1 : Shared} {ds : List D} {vs : List V} {us : List Value}, TX H0 H1 → Inv X pins σ H1 s1 → Rel X.K ρ M1 σ H1 → Reps X.K H1 ds vs → Vals vs us →
          (tz ρ M1 E fun ws M2 => kwD Γ g np ks ds ws M2 E Qd) → (∀ d M' v H', TX H0 H' → Rel X.K ρ M' σ H' → Rep X.K H' d v → Qd d M' → Q v H') → (∀ x M' cls dd H', TX H0 H' → Rel X.K ρ M' σ H' → RelX X.K H' x cls dd → E x M' → W cls dd σ H') →
          wpAny (model X.prog X.w) X.A (evalAll ((backToKw pos (keywordEach kws X.env)).map (·.2))) (fun ws s2 => X.K.In s2.heap ∧ wpAny (model X.prog X.w) X.A (call (.ref f) us (ks.zip ws)) (EP X pins σ Q) X.xe s2) X.xe s1 := by
        intro pins σ Q ρ E Qd M1 H0 H1 s1 ds vs us e1 I1 R1 r1 rv1 t1 kq kx
        refine wpAny_mono (hz.run pos pins s1 σ H1 (fun zs H2 => ∃ ws M2, TX H1 H2 ∧ Rel X.K ρ M2 σ H2 ∧ Reps X.K H2 ws zs ∧ kwD Γ g np ks ds ws M2 E Qd) I1 ⟨ρ, M1, E, _, R1, t1, fun ws M2 zs H2 e2 R2 r2 t2 => ⟨ws, M2, e2, R2, r2, t2⟩, fun x M' c d H' e' => kx x M' c d H' (e1.trans e')⟩) (fun us2 s2 hh => ?_) (fun _ _ z => z)
        obtain ⟨zs, H2, I2, rz, ws, M2, e2, R2, r2, t2⟩ := hh
        refine ⟨I2.kIn, ?_⟩
        unfold kwD at t2
        rw [gv, hk] at t2
        obtain ⟨l1, l2, t2⟩ := t2
        obtain ⟨rr, hl⟩ := hrel H2 ds vs ws zs l1 l2 (r1.mono e2) r2
        refine run_kw (E := WE W) F (G.room hcm) hb (G.pass σ) I2 rv1 rz (by rw [← r1.length]; exact l1) (by rw [← r2.length]; exact l2) ⟨hl, _, M2, E, Qd, R2.mem, rr, t2, fun d' M' v' H' e m r q => ?_, fun x' M' c dd H' e m rx q => ?_⟩
        · exact kq d' M' v' H' ((e1.trans e2).trans e) ⟨R2.env.mono e, m⟩ r q
        · exact kx x' M' c dd H' ((e1.trans e2).trans e) ⟨R2.env.mono e, m⟩ rx q
      refine ⟨fun pins s σ H Q I q => ?_⟩
      obtain ⟨ρ, M, E, Qd, R, ⟨_, t⟩, k, x'⟩ := q
      refine wpAny_Call_Name_kw (ld_glob I hgl hm ?_ hpl)
      rcases hes with ⟨rfl, h0⟩ | ⟨e, r, rfl, hst, hpl2⟩
      · refine PySem.W.callWith_KW0 (h₀ := X.base) I.ok.mod.kin hkp a1 ?_ (by rw [a3]; rfl)
        rw [a2]
        exact core (TX.refl H) I R .nil .nil (h0 _ _ _ _ t) k x'
      · refine PySem.W.callWith_KW (h₀ := X.base) I.ok.mod.kin hkp a1 (wpAny_mono (ha.run pos pins s σ H (fun vs H1 => ∃ ds M1, TX H H1 ∧ Rel X.K ρ M1 σ H1 ∧ Reps X.K H1 ds vs ∧ tz ρ M1 E fun ws M2 => kwD Γ g np ks ds ws M2 E Qd) I ⟨ρ, M, E, _, R, t, fun ds M1 vs H1 e1 R1 r1 t1 => ⟨ds, M1, e1, R1, r1, t1⟩, x'⟩) (fun us s1 hh => ?_) (fun _ _ z => z)) (by rw [back_any, hpl2, a3]; rfl) hst
        obtain ⟨vs, H1, I1, rv1, ds, M1, e1, R1, r1, t1⟩ := hh
        rw [a2]
        exact core e1 I1 R1 r1 rv1 t1 k x'
end
end DL
namespace DL
open PySem PySem.Spec L2
open PyProof.Rows hiding St
/-! ### own objects: made, their methods, properties, length, isinstance, == -/
section
variable {X : Cx} {CX : CXT} {k : Nat} {f C : Addr} {fd : FuncData} {ps : List Str} {sp : Sp} {dvs : List V} {ds : List Value} {E : L2.St → XK} {x m : Str} {p pos apos : Pos} {e o : Expr} {es : List Expr} {t : TA} {ta : TE}
def tMakeSD (C : Addr) (sp : Sp) (dvs : List V) (E : L2.St → XK) (t : TA) : TE := fun σ H Q => t σ H fun vs H1 => ∀ x dx, H1 x = none → H1 dx = none → dx ≠ x →
  sp (.ref x :: (vs ++ dvs)) (upd (upd H1 dx (.own x)) x (.ins C dx [])) (fun v H2 => v = .non ∧ Q (.ref x) H2) (E σ)
theorem run_makeSD {pins : List (Addr × Obj)} {σ : L2.St} {H : Hp} {s : Shared} {Q : VK} {us : List Value} {vs : List V} (M : Mk X.K C f) (F : FnOk X.prog X.w X.K X.mg X.base CX k f fd ps sp) (hr : Room (k + 1) X.A) (hb : Binds X.K fd ps ds) (hd : Vals dvs ds)
    (hx : PassesAt CX X σ (E σ)) (I : Inv X pins σ H s) (r : Vals vs us)
    (h : ∀ x dx, H x = none → H dx = none → dx ≠ x → sp (.ref x :: (vs ++ dvs)) (upd (upd H dx (.own x)) x (.ins C dx [])) (fun v H2 => v = .non ∧ Q (.ref x) H2) (E σ)) :
    wpAny (model X.prog X.w) X.A (call (.ref C) us) (EP X pins σ Q) X.xe s := by
  have hq := h (s.heap.objs.size + 1) s.heap.objs.size (I.hok.fresh (Nat.le_succ _)) (I.hok.fresh (Nat.le_refl _)) (Nat.ne_of_lt (Nat.lt_succ_self _))
  have I2 := Inv.made (C := C) I
  have r2 : Vals (V.ref (s.heap.objs.size + 1) :: (vs ++ dvs)) (Value.ref (s.heap.objs.size + 1) :: (us ++ ds)) := .cons rfl (r.append hd)
  have hl : (Value.ref (s.heap.objs.size + 1) :: us ++ ds).length = ps.length := by
    have e := r2.length
    rw [F.len _ _ _ _ hq] at e
    exact e.symm
  refine wpAny_call (make_map (f := f) I.kIn M.makes M.init (beq_iff_eq.mp M.fn) (codeAny_mono (F.run _ X.stack _ _ ⟨Value.ref (s.heap.objs.size + 1) :: us, []⟩ (Value.ref (s.heap.objs.size + 1) :: (us ++ ds)) _ _ (E σ) (hr.make C us [])
    (I2.env0.make C us []) (hb _ (Value.ref (s.heap.objs.size + 1) :: us) I2.kIn hl) r2 hq) fun r s' hq' => ?_))
  cases r with
  | error e => exact hx pins _ _ e s' I2 hq'
  | ok fl =>
    cases fl with
    | ret u =>
      obtain ⟨v, H', I3, rv, ev, q3⟩ := I2.after hq'
      subst ev
      exact ⟨rv, ⟨V.ref (s.heap.objs.size + 1), H', I3, rfl, q3⟩⟩
    | next => exact False.elim hq'
    | brk => exact False.elim hq'
    | cont => exact False.elim hq'
theorem pe_makeSD (M : Mk X.K C f) (F : FnOk X.prog X.w X.K X.mg X.base CX k f fd ps sp) (hr : Room (k + 1) X.A) (hg : Gl X x) (hm : X.mg x = some (.ref C)) (hb : Binds X.K fd ps ds) (hd : Vals dvs ds) (hx : ∀ σ, PassesAt CX X σ (E σ))
    (ha : PA X (e :: es) t) (hdb : (x == ("__debug__" : Str)) = false) (h1 : starEach (e :: es) X.env = (false, eval e X.env) :: starEach es X.env) (h2 : (backTo pos (starEach es X.env)).any (·.1) = false) :
    PE X (.Call (.Name x p) (e :: es) [] pos) (tMakeSD C sp dvs E t) := by
  refine ⟨fun pins s σ H Q I h => ?_⟩
  refine wpAny_Call_Name_kw (ld_glob I hg hm ?_ hdb)
  refine PySem.W.callWith_K (h₀ := X.base) I.ok.mod.kin M.kp (thn (ha.run pos pins s σ H _ I h) fun us s1 ⟨vs, H1, I1, r, q⟩ => ⟨I1.kIn, ?_⟩) h1 h2
  exact run_makeSD M F hr hb hd (hx σ) I1 r q
theorem pe_makeSD0 (M : Mk X.K C f) (F : FnOk X.prog X.w X.K X.mg X.base CX k f fd ps sp) (hr : Room (k + 1) X.A) (hg : Gl X x) (hm : X.mg x = some (.ref C)) (hb : Binds X.K fd ps ds) (hd : Vals dvs ds) (hx : ∀ σ, PassesAt CX X σ (E σ)) (hdb : (x == ("__debug__" : Str)) = false) :
    PE X (.Call (.Name x p) [] [] pos) (tMakeSD C sp dvs E tNil) := by
  refine ⟨fun pins s σ H Q I h => ?_⟩
  refine wpAny_Call_Name_kw (ld_glob I hg hm ?_ hdb)
  exact PySem.W.callWith_K0 I.kIn M.kp (run_makeSD (us := []) M F hr hb hd (hx σ) I .nil h)
/-- by keywords -/
def tMakeNS (C : Addr) (n m : Nat) (sp : Sp) (gV : List V → List V → List V) (E : L2.St → XK) (t tk : TA) : TE := fun σ H Q => t σ H fun vs H1 => tk σ H1 fun zs H2 => vs.length = n ∧ zs.length = m ∧ ∀ x dx, H2 x = none → H2 dx = none → dx ≠ x →
  sp (gV (.ref x :: vs) zs) (upd (upd H2 dx (.own x)) x (.ins C dx [])) (fun v H3 => v = .non ∧ Q (.ref x) H3) (E σ)
/-- a method -/
def tMethSD (C : Addr) (m : Str) (sp : Sp) (dvs : List V) (E : L2.St → XK) (ta : TE) (t : TA) : TE := fun σ H Q => ta σ H fun x H1 => ∃ a dx fs, x = .ref a ∧ H1 a = some (.ins C dx fs) ∧ fs.lookup m = none ∧
  t σ H1 fun vs H2 => sp (x :: (vs ++ dvs)) H2 Q (E σ)
theorem meth_eq {M : Model} {A : Around} {S : Shared} {Q : Value → Shared → Prop} {E : Value → Shared → Prop} {env : PySem.Env} {args : List Expr} (hbase : attributeBase o m env (eval o env) = eval o env)
    (hform : methodCallForm (args.length + ([] : List Keyword).length) (backTo pos (starEach args env)) (backToKw pos (keywordEach [] env)) = true) (hline : (apos.endLine == pos.line) = true)
    (h : wpAny M A (eval o env) (fun ov s₁ => wpAny M A (getMethod ov m (do return (← importBound o env).getD true)) (fun fx s₂ => wpAny M A (callWith pos fx.1 fx.2 (backTo pos (starEach args env)) (backToKw pos (keywordEach [] env))) Q E s₂) E s₁) E S) :
    wpAny M A (eval (.Call (.Attribute o m apos) args [] pos) env) Q E S := by
  have hpos : methodCallPos true o env apos pos = pure pos := by unfold methodCallPos; simp [hline]
  rw [arm_eval_Call, hbase]
  refine wpAny_bind (wpAny_mono h (fun ov s₁ h₁ => wpAny_bind (wpAny_standAt ?_)) fun _ _ x => x)
  unfold methodCall
  rw [hform]
  refine wpAny_bind (wpAny_holding (wpAny_mono h₁ (fun fx s₂ h₂ => ?_) fun _ _ x => x))
  exact wpAny_bind (wpAny_of_eq hpos h₂)
theorem pe_methSD (he : PE X o ta) (c : Cls X.K C) (hm : Meth X.K C m f) (F : FnOk X.prog X.w X.K X.mg X.base CX k f fd ps sp) (hr : Room k X.A) (hb : Binds X.K fd ps ds) (hd : Vals dvs ds) (hx : ∀ σ, PassesAt CX X σ (E σ)) (ha : PA X (e :: es) t)
    (hst : starEach (e :: es) X.env = (false, eval e X.env) :: starEach es X.env) (hpl : (backTo pos (starEach es X.env)).any (·.1) = false) (hbase : attributeBase o m X.env (eval o X.env) = eval o X.env)
    (hform : methodCallForm ((e :: es).length + ([] : List Keyword).length) (backTo pos (starEach (e :: es) X.env)) (backToKw pos (keywordEach [] X.env)) = true) (hline : (apos.endLine == pos.line) = true) :
    PE X (.Call (.Attribute o m apos) (e :: es) [] pos) (tMethSD C m sp dvs E ta t) := by
  refine ⟨fun pins s σ H Q I h => ?_⟩
  refine meth_eq hbase hform hline (thn (he.run pins s σ H _ I h) fun u s1 ⟨x, H1, I1, rx, a, dx, fs, ex, ea, l, q⟩ => ?_)
  subst ex
  obtain rfl : u = Value.ref a := rx
  refine getmeth_ok I1 ea c hm l ?_
  refine PySem.W.callWith_K (first := [.ref a]) (h₀ := X.base) I.ok.mod.kin hm.kp (thn (ha.run pos pins s1 σ H1 _ I1 q) fun us s2 ⟨vs, H2, I2, r, q2⟩ => ⟨I2.kIn, ?_⟩) hst hpl
  exact run_fnSD (us := .ref a :: us) (vs := .ref a :: vs) F hr hb hd (hx σ) I2 (.cons rfl r) q2
theorem pe_methSD0 (he : PE X o ta) (c : Cls X.K C) (hm : Meth X.K C m f) (F : FnOk X.prog X.w X.K X.mg X.base CX k f fd ps sp) (hr : Room k X.A) (hb : Binds X.K fd ps ds) (hd : Vals dvs ds) (hx : ∀ σ, PassesAt CX X σ (E σ))
    (hbase : attributeBase o m X.env (eval o X.env) = eval o X.env) (hline : (apos.endLine == pos.line) = true) :
    PE X (.Call (.Attribute o m apos) [] [] pos) (tMethSD C m sp dvs E ta tNil) := by
  refine ⟨fun pins s σ H Q I h => ?_⟩
  refine meth_eq hbase (by rfl) hline (thn (he.run pins s σ H _ I h) fun u s1 ⟨x, H1, I1, rx, a, dx, fs, ex, ea, l, q⟩ => ?_)
  subst ex
  obtain rfl : u = Value.ref a := rx
  refine getmeth_ok I1 ea c hm l ?_
  exact PySem.W.callWith_K0 (first := [.ref a]) I1.kIn hm.kp (run_fnSD (us := [.ref a]) (vs := [.ref a]) F hr hb hd (hx σ) I1 (.cons rfl .nil) q)
/-- len(o) by its own __len__ -/
theorem call_lenO {E : XK} (c : Cls X.K C) (hm : Meth X.K C "__len__" f) (F : FnOk X.prog X.w X.K X.mg X.base CX k f fd ps sp) (hr : Room (k + 1) X.A) (hb : Binds X.K fd ps ds) (hd : Vals dvs ds) (hx : Passes CX X E) :
    CallR X (.builtin "len") (fun xs H Q => ∃ a dx fs, xs = [.ref a] ∧ H a = some (.ins C dx fs) ∧ sp (.ref a :: dvs) H (fun v H2 => ∃ i : Int, v = .int i ∧ 0 ≤ i ∧ i < 2 ^ 63 ∧ Q (.int i) H2) E) := by
  intro pins s σ H xs us Q I r h
  obtain ⟨a, dx, fs, rfl, ha, hsp⟩ := h
  obtain ⟨u, rfl, ru⟩ := vals1 r
  obtain rfl : u = Value.ref a := ru
  obtain ⟨mA, J, _⟩ := ins_get I.hok ha
  obtain ⟨od, J, _⟩ := J.look
  obtain ⟨m', hF⟩ := I.fr
  refine PySem.W.len_K hF I.ok.mod.kin J hm.at_ hm.fn ?_
  have r2 : Vals (V.ref a :: dvs) (Value.ref a :: ds) := .cons rfl hd
  have hl : ([Value.ref a] ++ ds).length = ps.length := by
    have e := r2.length
    rw [F.len _ _ _ _ hsp] at e
    exact e.symm
  refine wpAny_call (codeAny_mono (F.run X.A.in1 X.stack s H ⟨[.ref a], []⟩ (.ref a :: ds) (.ref a :: dvs) _ E hr.in1 I.env0.in1 (hb s [.ref a] I.kIn hl) r2 hsp) fun r s' hq => ?_)
  cases r with
  | error e => exact hx pins σ H s e s' I hq
  | ok fl =>
    cases fl with
    | ret u =>
      obtain ⟨v, H', I', rv, i, rfl, h0, h1, q⟩ := I.after hq
      obtain ⟨t, rfl⟩ := (show ∃ t, u = Value.int i t from rv)
      exact ⟨⟨h0, h1⟩, .int i, H', I'.tok _, ⟨_, rfl⟩, q⟩
    | next => exact False.elim hq
    | brk => exact False.elim hq
    | cont => exact False.elim hq
/-- what is told of a value's class -/
inductive TyE (K : PySem.W.Frag) (H : Hp) : V → Value → Prop where
  | non : TyE K H .non (.type "NoneType")
  | bl (x : Bool) : TyE K H (.bl x) (.type "bool")
  | int (i : Int) : TyE K H (.int i) (.type "int")
  | str (x : Str) : TyE K H (.str x) (.type "str")
  | lst {a : Addr} {xs : List V} (e : SqL K H a xs) : TyE K H (.ref a) (.type "list")
  | tup {a : Addr} {xs : List V} (e : SqT K H a xs) : TyE K H (.ref a) (.type "tuple")
  | ins {a C dx : Addr} {fs : List (Str × V)} (e : H a = some (.ins C dx fs)) : TyE K H (.ref a) (.ref C)
theorem look_ref {M : Model} {h : Heap} {y : Addr} {o : Obj} {t : Value} (ho : h.get? y = some o) (hc : o.cls = t) : PySem.W.Looks M h (typeOf (.ref y)) t :=
  (PySem.W.Looks.ld ho).andThen (by rw [hc]; exact .now)
theorem TyE.look {pins : List (Addr × Obj)} {σ : L2.St} {H : Hp} {s : Shared} {y : V} {u t : Value} (I : Inv X pins σ H s) (ry : RelV y u) (h : TyE X.K H y t) : PySem.W.Looks (model X.prog X.w) s.heap (typeOf u) t := by
  cases h with
  | non => cases (show u = Value.none from ry); exact .of_pure rfl
  | bl x => cases (show u = Value.bool x from ry); exact .of_pure rfl
  | int i => obtain ⟨t, q⟩ := (show ∃ t, u = Value.int i t from ry); cases q; exact .of_pure rfl
  | str x => obtain ⟨t, q⟩ := (show ∃ t, u = Value.str x t from ry); cases q; exact .of_pure rfl
  | lst e =>
    cases (show u = Value.ref _ from ry)
    obtain ⟨its, _, ⟨o, n, e1, e2, _⟩, _⟩ := I.list e
    exact look_ref e1 e2
  | tup e =>
    cases (show u = Value.ref _ from ry)
    obtain ⟨its, _, ⟨o, e1, e2, _⟩, _⟩ := I.tuple e
    exact look_ref e1 e2
  | ins e =>
    cases (show u = Value.ref _ from ry)
    obtain ⟨mA, J, _⟩ := ins_get I.hok e
    obtain ⟨od, J, _⟩ := J.look
    exact J.type
/-- a == b by its own __eq__ -/
theorem op_eqO {E : XK} (c : Cls X.K C) (hm : Meth X.K C "__eq__" f) (F : FnOk X.prog X.w X.K X.mg X.base CX k f fd ps sp) (hr : Room k X.A) (hb : Binds X.K fd ps ds) (hd : Vals dvs ds) (hx : Passes CX X E) :
    OpR X (compareOp .Eq) (fun x y H Q => ∃ a dx fs, x = .ref a ∧ H a = some (.ins C dx fs) ∧ (∃ t, TyE X.K H y t ∧ PySem.W.notFirst X.K C t = true) ∧ sp (.ref a :: y :: dvs) H (fun v H2 => ∃ b, v = .bl b ∧ Q (.bl b) H2) E) := by
  intro pins s σ H x y v u Q I rx ry h
  obtain ⟨a, dx, fs, rfl, ha, ⟨t, ht, hn⟩, hsp⟩ := h
  obtain rfl : v = Value.ref a := rx
  obtain ⟨mA, J, _⟩ := ins_get I.hok ha
  obtain ⟨od, J, _⟩ := J.look
  obtain ⟨m', hF⟩ := I.fr
  show wpAny (model X.prog X.w) X.A (richCompare .Eq (.ref a) u) (EP X pins σ Q) X.xe s
  have hty : PySem.W.Looks (model X.prog X.w) s.heap (typeOf u) t := ht.look I ry
  refine PySem.W.cmp_K (op := .Eq) (tb := t) hr.units0 hF I.ok.mod.kin J hty hn hm.at_ hm.fn ?_
  have r2 : Vals (V.ref a :: y :: dvs) (Value.ref a :: u :: ds) := .cons rfl (.cons ry hd)
  have hl : ([Value.ref a, u] ++ ds).length = ps.length := by
    have e := r2.length
    rw [F.len _ _ _ _ hsp] at e
    exact e.symm
  refine wpAny_call (codeAny_mono (F.run X.A X.stack s H ⟨[.ref a, u], []⟩ (.ref a :: u :: ds) (.ref a :: y :: dvs) _ E hr I.env0 (hb s [.ref a, u] I.kIn hl) r2 hsp) fun r s' hq => ?_)
  cases r with
  | error e => exact hx pins σ H s e s' I hq
  | ok fl =>
    cases fl with
    | ret w =>
      obtain ⟨v, H', I', rv, b, rfl, q⟩ := I.after hq
      obtain rfl : w = Value.bool b := rv
      exact ⟨.bl b, H', I', rfl, q⟩
    | next => exact False.elim hq
    | brk => exact False.elim hq
    | cont => exact False.elim hq
end
theorem RelM.newI {K : PySem.W.Frag} {M : Mm} {H : Hp} {p dx C : Addr} (r : RelM K M H) (hp : H p = none) (hd : H dx = none) (hne : dx ≠ p) : RelM K (M.put p (.ins C [])) (upd (upd H dx (.own p)) p (.ins C dx [])) := fun a o e => by
  have hp' : upd H dx (.own p) p = none := by rw [upd_ne (Ne.symm hne)]; exact hp
  by_cases ha : a = p
  · subst ha; rw [Mm.put_same] at e; cases e
    exact ⟨dx, [], upd_same, Nat.le_refl _, fun f d hf => by simp [List.lookup] at hf, fun f _ => rfl⟩
  · rw [Mm.put_ne ha] at e; exact (r.new hd).new hp' a o e
theorem TX.newI {H : Hp} {p dx C : Addr} (hp : H p = none) (hd : H dx = none) (hne : dx ≠ p) : TX H (upd (upd H dx (.own p)) p (.ins C dx [])) :=
  (TX.new hd).trans (TX.new (by rw [upd_ne (Ne.symm hne)]; exact hp))
theorem DflOk.get {K : PySem.W.Frag} {fd : FuncData} {ps : List Str} {dfl : List D} (h : DflOk K fd ps dfl) (j : Nat) (hj : j ≤ dfl.length) : ∃ dvs ds, Binds K fd ps ds ∧ Vals dvs ds ∧ ∀ H, Reps K H (dfl.drop (dfl.length - j)) dvs := h j hj
theorem tyD_E {K : PySem.W.Frag} {M : Mm} {H : Hp} {d : D} {v : V} {t : Sum String Addr} (m : RelM K M H) (r : Rep K H d v) (h : tyD M d = some t) : TyE K H v (clsV t) := by
  cases r with
  | non => cases h; exact .non
  | bl b => cases h; exact .bl b
  | int i => cases h; exact .int i
  | str x => cases h; exact .str x
  | ty n => cases h
  | tup s q => cases h; exact .tup s
  | ref a =>
    simp only [tyD] at h
    split at h
    · rename_i e; cases h; obtain ⟨vs, a1, a2⟩ := m.sq (.inl e); exact .lst a1
    · rename_i e; cases h; obtain ⟨vs, a1, a2⟩ := m.sq (.inr e); exact .lst a1
    · rename_i C fs e; cases h; obtain ⟨dx, vfs, a1, _⟩ := m a _ e; exact .ins a1
    · cases h
theorem tyD_X {K : PySem.W.Frag} {M : Mm} {H : Hp} {d : D} {v : V} {t : Sum String Addr} {C : Addr} {b : Bool} (m : RelM K M H) (r : Rep K H d v) (h : tyD M d = some t) (ok : IsiOk K t C b) : TyX K H v (clsV t) ∧ PySem.W.kitOne K (clsV t) (.ref C) = some b := by
  cases r with
  | non => cases h; exact ⟨.base .non, ok⟩
  | bl b => cases h; exact ⟨.base (.bl b), ok⟩
  | int i => cases h; exact ⟨.base (.int i), ok⟩
  | str x => cases h; exact ⟨.base (.str x), ok⟩
  | ty n => cases h
  | tup s q =>
    cases h
    refine ⟨?_, ok⟩
    rcases s with (s | ⟨o, s⟩) | ⟨o, its, n, hk, hc, _⟩
    · exact .base (.tup s)
    · exact .fTuple s
    · exact .kTuple hk hc
  | ref a =>
    simp only [tyD] at h
    split at h
    · rename_i e; cases h; obtain ⟨vs, a1, a2⟩ := m a _ e; exact ⟨.base (.lst a1), ok⟩
    · rename_i e; cases h; obtain ⟨vs, o, a1, a2⟩ := m a _ e; exact ⟨.base (.frz a1), ok⟩
    · rename_i D fs e; cases h; obtain ⟨dx, vfs, a1, _⟩ := m a _ e; exact ⟨.base (.ins a1 ok.1.cl ok.1.ha ok.1.hn ok.1.htk ok.1.hm), ok.2⟩
    · cases h
theorem R_of' {K : PySem.W.Frag} {ρ : DEnv} {M M' : Mm} {σ : L2.St} {H H' : Hp} (R : Rel K ρ M σ H) (e : TX H H') (m : RelM K M' H') : Rel K ρ M' σ H' := ⟨R.env.mono e, m⟩
section
variable {CX : CXT} {X : Cx} {T : Tb} {Γ : Gm} {W : WX} {lv : Nat}
theorem mk_ok (G : Good CX X T Γ W lv) (hcm : T.calm = true) {g : Nat} {x : Str} {ta : TDs} {es : List Expr} {p pos : Pos} {n : Nat} (hg : T.gn[g]? = some (x, none)) (hgl : Gl X x) (hpl : (x == ("__debug__" : Str)) = false) (ha : PA X es (liftA X.K W ta))
    (hes : (es = [] ∧ n = 0 ∧ ∀ ρ M E Q, ta ρ M E Q → Q [] M) ∨ ∃ e r, es = e :: r ∧ starEach (e :: r) X.env = (false, eval e X.env) :: starEach r X.env ∧ (backTo pos (starEach r X.env)).any (·.1) = false) :
    PE X (.Call (.Name x p) es [] pos) (lift X.K W fun ρ M E Q => isCla n (Γ.gv g) ∧ ta ρ M E fun ds M1 => mkD (Γ.gv g) n ds M1 E Q) := by
  have go := G.glob g x none hg
  cases gv : Γ.gv g with
  | fn n sp dfl => rw [gv] at go; exact go.elim
  | val d => exact PE.never fun σ H Q ⟨ρ, M, E, Qd, R, ⟨t, _⟩, _⟩ => t
  | err C fs tx => exact PE.never fun σ H Q ⟨ρ, M, E, Qd, R, ⟨t, _⟩, _⟩ => t
  | cls C => exact PE.never fun σ H Q ⟨ρ, M, E, Qd, R, ⟨t, _⟩, _⟩ => t
  | cla C i =>
    cases i with
    | none => exact PE.never fun σ H Q ⟨ρ, M, E, Qd, R, ⟨t, _⟩, _⟩ => t
    | some i =>
      obtain ⟨a, sp, dfl⟩ := i
      rw [gv] at go
      obtain ⟨hm, k, f, fd, ps, hk, Mk, F, hps, hb⟩ := go
      by_cases hj : a - n ≤ dfl.length
      · obtain ⟨dvs, dss, bi, vd, rd⟩ := hb.get _ hj
        have core : ∀ {σ : L2.St} {Q : VK} {ρ : DEnv} {E : EK} {Qd : QD} {M1 : Mm} {H0 H1 : Hp} {ds : List D} {vs : List V}, TX H0 H1 → Rel X.K ρ M1 σ H1 → Reps X.K H1 ds vs → mkD (.cla C (some (a, sp, dfl))) n ds M1 E Qd →
            (∀ d M' v H', TX H0 H' → Rel X.K ρ M' σ H' → Rep X.K H' d v → Qd d M' → Q v H') → (∀ x M' cls dd H', TX H0 H' → Rel X.K ρ M' σ H' → RelX X.K H' x cls dd → E x M' → W cls dd σ H') →
            ∀ x dx, H1 x = none → H1 dx = none → dx ≠ x → liftSp X.K (a + 1) sp (.ref x :: (vs ++ dvs)) (upd (upd H1 dx (.own x)) x (.ins C dx [])) (fun v H2 => v = .non ∧ Q (.ref x) H2) (WE W σ) := by
          intro σ Q ρ E Qd M1 H0 H1 ds vs e1 R1 r1 t1 kq kx y dx hy hdx hne
          obtain ⟨t1, t2, t3, t4⟩ := t1
          have ex := TX.newI (C := C) hy hdx hne
          have l2 := (rd H1).length
          refine ⟨?_, .ref y :: (ds ++ dfl.drop (dfl.length - (a - n))), M1.put y (.ins C []), E, _, R1.mem.newI hy hdx hne, .cons (.ref y) ((r1.mono ex).append (rd _)), t4 y (R1.mem.free hy), fun d M' v H' e m r q => ?_, fun z M' cc dd H' e m rx q => kx z M' cc dd H' ((e1.trans ex).trans e) (R_of' (R_of' R1 ex (R1.mem.newI hy hdx hne)) e m) rx q⟩
          · rw [List.length_cons, List.length_append, ← r1.length, ← l2, List.length_drop, t3]; omega
          · obtain ⟨rfl, q⟩ := q
            cases r
            exact ⟨rfl, kq _ _ _ _ ((e1.trans ex).trans e) (R_of' (R_of' R1 ex (R1.mem.newI hy hdx hne)) e m) (.ref y) q⟩
        rcases hes with ⟨rfl, rfl, h0⟩ | ⟨e, r, rfl, hst, hpl2⟩
        · refine PE.imp (pe_makeSD0 (E := WE W) Mk F ((G.room hcm).mono hk) hgl hm bi vd G.pass hpl) fun σ H Q ⟨ρ, M, E, Qd, R, ⟨_, t⟩, k', x'⟩ => ?_
          exact fun y dx hy hdx hne => core (TX.refl H) R .nil (h0 _ _ _ _ t) k' x' y dx hy hdx hne
        · refine PE.imp (pe_makeSD (E := WE W) Mk F ((G.room hcm).mono hk) hgl hm bi vd G.pass ha hpl hst hpl2) fun σ H Q ⟨ρ, M, E, Qd, R, ⟨_, t⟩, k', x'⟩ => ?_
          exact ⟨ρ, M, E, _, R, t, fun ds M1 vs H1 e1 R1 r1 t1 y dx hy hdx hne => core e1 R1 r1 t1 k' x' y dx hy hdx hne, x'⟩
      · exact PE.never fun σ H Q ⟨ρ, M, E, Qd, R, ⟨t, _⟩, _⟩ => hj t
theorem mt_get (G : Good CX X T Γ W lv) {g : Nat} {C : Addr} {m : Str} {k : Nat} (hC : (Γ.gv g).insOf = some C) (h : mtN Γ g m k) : ∃ n sp dfl, Γ.mt g m = some (n, sp, dfl) ∧ ∃ kk f fd ps, kk + 1 ≤ lv ∧ Cls X.K C ∧ Meth X.K C m f ∧ FnOk X.prog X.w X.K X.mg X.base CX kk f fd ps (liftSp X.K (n + 1) sp) ∧ ps.length = n + 1 ∧
    ∃ dvs ds, Binds X.K fd ps ds ∧ Vals dvs ds ∧ ∀ H, Reps X.K H (dfl.drop (dfl.length - (n - k))) dvs := by
  unfold mtN at h
  split at h
  · rename_i n sp dfl e
    obtain ⟨kk, f, fd, ps, hk, h1, h2, h3, h4, h5⟩ := G.mt _ _ _ _ _ _ hC e
    exact ⟨n, sp, dfl, e, kk, f, fd, ps, hk, h1, h2, h3, h4, h5 _ h⟩
  · exact h.elim
theorem mtN_dec (Γ : Gm) (g : Nat) (m : Str) (k : Nat) : mtN Γ g m k ∨ ¬ mtN Γ g m k := Classical.em _
theorem mc_ok (G : Good CX X T Γ W lv) (hcm : T.calm = true) {g : Nat} {C : Addr} (hC : (Γ.gv g).insOf = some C) {m : Str} {tx : TD} {ta : TDs} {o : Expr} {es : List Expr} {ap pos : Pos} {n : Nat} (ho : PE X o (lift X.K W tx)) (ha : PA X es (liftA X.K W ta)) (hbase : attributeBase o m X.env (eval o X.env) = eval o X.env) (hline : (ap.endLine == pos.line) = true)
    (hes : (es = [] ∧ n = 0 ∧ ∀ ρ M E Q, ta ρ M E Q → Q [] M) ∨ ∃ e r, es = e :: r ∧ starEach (e :: r) X.env = (false, eval e X.env) :: starEach r X.env ∧ (backTo pos (starEach r X.env)).any (·.1) = false ∧ methodCallForm ((e :: r).length + ([] : List Keyword).length) (backTo pos (starEach (e :: r) X.env)) (backToKw pos (keywordEach [] X.env)) = true) :
    PE X (.Call (.Attribute o m ap) es [] pos) (lift X.K W fun ρ M E Q => mtN Γ g m n ∧ tx ρ M E fun x M1 => InsM M1 C m x ∧ ta ρ M1 E fun ds M2 => mcD Γ g m x n ds M2 E Q) := by
  rcases mtN_dec Γ g m n with hmt | hmt
  case inr => exact PE.never fun σ H Q ⟨ρ, M, E, Qd, R, ⟨t, _⟩, _⟩ => hmt t
  obtain ⟨a, sp, dfl, emt, k, f, fd, ps, hk, cl, me, F, hps, dvs, dss, bi, vd, rd⟩ := mt_get G hC hmt
  have rm : Room k X.A := (G.room hcm).mono (by omega)
  have fin : ∀ {σ : L2.St} {Q : VK} {ρ : DEnv} {E : EK} {Qd : QD} {M2 : Mm} {H0 H2 : Hp} {ds : List D} {vs : List V} {d : D} {v : V}, TX H0 H2 → Rel X.K ρ M2 σ H2 → Reps X.K H2 ds vs → Rep X.K H2 d v → mcD Γ g m d n ds M2 E Qd →
      (∀ d M' v H', TX H0 H' → Rel X.K ρ M' σ H' → Rep X.K H' d v → Qd d M' → Q v H') → (∀ x M' cls dd H', TX H0 H' → Rel X.K ρ M' σ H' → RelX X.K H' x cls dd → E x M' → W cls dd σ H') →
      liftSp X.K (a + 1) sp (v :: (vs ++ dvs)) H2 Q (WE W σ) := by
    intro σ Q ρ E Qd M2 H0 H2 ds vs d v e2 R2 r2 rv t2 kq kx
    unfold mcD at t2
    rw [emt] at t2
    obtain ⟨t1, t2, t3, t4⟩ := t2
    have l2 := (rd H2).length
    refine ⟨?_, d :: (ds ++ dfl.drop (dfl.length - (a - n))), M2, E, Qd, R2.mem, .cons rv (r2.append (rd _)), t4, fun d M' v H' e m r q => kq _ _ _ _ (e2.trans e) (R_of' R2 e m) r q, fun z M' cc dd H' e m rx q => kx z M' cc dd H' (e2.trans e) (R_of' R2 e m) rx q⟩
    rw [List.length_cons, List.length_append, ← r2.length, ← l2, List.length_drop, t3]; omega
  have obj : ∀ {M1 : Mm} {H1 : Hp} {d : D} {v : V}, RelM X.K M1 H1 → Rep X.K H1 d v → InsM M1 C m d → ∃ p dx vfs, v = .ref p ∧ H1 p = some (.ins C dx vfs) ∧ vfs.lookup m = none := by
    intro M1 H1 d v mm r h
    obtain ⟨p, fs, rfl, h1, h2⟩ := h
    cases r
    obtain ⟨dx, vfs, w1, w2, w3, w4⟩ := mm _ _ h1
    exact ⟨p, dx, vfs, rfl, w1, w4 _ h2⟩
  rcases hes with ⟨rfl, rfl, h0⟩ | ⟨e, r, rfl, hst, hpl2, hform⟩
  · refine PE.imp (pe_methSD0 (E := WE W) ho cl me F rm bi vd G.pass hbase hline) fun σ H Q ⟨ρ, M, E, Qd, R, ⟨_, t⟩, k', x'⟩ => ?_
    refine ⟨ρ, M, E, _, R, t, fun d M1 v H1 e1 R1 r1 ⟨hi, t1⟩ => ?_, x'⟩
    obtain ⟨p, dx, vfs, rfl, w1, w2⟩ := obj R1.mem r1 hi
    exact ⟨p, dx, vfs, rfl, w1, w2, fin e1 R1 .nil r1 (h0 _ _ _ _ t1) k' x'⟩
  · refine PE.imp (pe_methSD (E := WE W) ho cl me F rm bi vd G.pass ha hst hpl2 hbase hform hline) fun σ H Q ⟨ρ, M, E, Qd, R, ⟨_, t⟩, k', x'⟩ => ?_
    refine ⟨ρ, M, E, _, R, t, fun d M1 v H1 e1 R1 r1 ⟨hi, t1⟩ => ?_, x'⟩
    obtain ⟨p, dx, vfs, rfl, w1, w2⟩ := obj R1.mem r1 hi
    refine ⟨p, dx, vfs, rfl, w1, w2, ρ, M1, E, _, R1, t1, fun ds M2 vs H2 e2 R2 r2 t2 => ?_, fun z M' c dd H' e' => x' z M' c dd H' (e1.trans e')⟩
    exact fin (e1.trans e2) R2 r2 (r1.mono e2) t2 k' x'
theorem pr_ok (G : Good CX X T Γ W lv) (hcm : T.calm = true) {g : Nat} {C : Addr} (hC : (Γ.gv g).insOf = some C) {f : Str} {tx : TD} {o : Expr} {pos : Pos} (ho : PE X o (lift X.K W tx)) (hbase : attributeBase o f X.env (eval o X.env) = eval o X.env) :
    PE X (.Attribute o f pos) (lift X.K W fun ρ M E Q => (Γ.pr g f).isSome = true ∧ tx ρ M E fun x M1 => InsD M1 C x ∧ prD Γ g f x M1 Q) := by
  cases hp : Γ.pr g f with
  | none => exact PE.never fun σ H Q ⟨ρ, M, E, Qd, R, ⟨t, _⟩, _⟩ => by cases t
  | some sp =>
    obtain ⟨k, p, g', fd, ps, hk, cl, po, F, bi⟩ := G.pr _ _ _ _ hC hp
    refine PE.imp (pe_prop (E := fun _ _ _ => False) ho cl po F ((G.room hcm).mono hk) bi .nil (fun pins σ H s e s' I c => absurd c (G.cx0 _ _ _ _ _)) hbase) fun σ H Q ⟨ρ, M, E, Qd, R, ⟨_, t⟩, k', x'⟩ => ?_
    refine ⟨ρ, M, E, _, R, t, fun d M1 v H1 e1 R1 r1 ⟨hi, t1⟩ => ?_, x'⟩
    obtain ⟨a, fs, rfl, h1⟩ := hi
    cases r1
    obtain ⟨dx, vfs, w1, _⟩ := R1.mem _ _ h1
    unfold prD at t1
    rw [hp] at t1
    exact ⟨a, dx, vfs, rfl, w1, rfl, [.ref a], M1, _, Qd, R1.mem, .cons (.ref a) .nil, t1, fun d M' v H' e m r q => k' _ _ _ _ (e1.trans e) (R_of' R1 e m) r q, fun z M' cc dd H' e m rx q => q.elim⟩
theorem iso_ok {C : Addr} {tx : TD} {o : Expr} {y : Str} {p py pos : Pos} (G : Good CX X T Γ W lv) (ho : PE X o (lift X.K W tx)) (hgx : Gl X "isinstance") (nm : X.mg "isinstance" = none) (hgy : Gl X y) (hm : X.mg y = some (.ref C)) (hpl : (y == ("__debug__" : Str)) = false)
    (hst : ∀ es, starEach (o :: es) X.env = (false, eval o X.env) :: starEach es X.env) : PE X (.Call (.Name "isinstance" p) [o, .Name y py] [] pos) (lift X.K W fun ρ M E Q => tx ρ M E fun x M1 => isoD Γ C x M1 Q) := by
  have A := pa_cons ho (pa_cons (pe_glob (pos := py) (v := .ref C) hgy hm rfl hpl) pa_nil rfl) (hst _)
  refine PE.imp (pe_callB (id := "isinstance") call_isi hgx nm (by decide +kernel) A (by decide) (by decide) (hst _) rfl) fun σ H Q q => ?_
  refine lift1 (r := fun x H1 Q => rIsi X.K [x, .ref C] H1 Q) (rd := fun x M1 E Q => isoD Γ C x M1 Q) q fun d v M1 H1 ρ E Qd R r1 t k x => ?_
  unfold isoD at t
  split at t
  · rename_i ty ht
    split at t
    · rename_i b hb
      obtain ⟨a1, a2⟩ := tyD_X R.mem r1 ht (G.isi _ _ _ hb)
      exact ⟨v, .ref C, _, .ref C, b, rfl, .own C, a1, a2, k _ _ _ _ (TX.refl _) R (.bl b) t⟩
    · exact t.elim
  · exact t.elim
theorem lno_ok (G : Good CX X T Γ W lv) (hcm : T.calm = true) {g : Nat} {C : Addr} (hC : (Γ.gv g).insOf = some C) {tx : TD} {o : Expr} {p pos : Pos} (ho : PE X o (lift X.K W tx)) (hgx : Gl X "len") (nm : X.mg "len" = none) (hst : starEach [o] X.env = (false, eval o X.env) :: starEach [] X.env) :
    PE X (.Call (.Name "len" p) [o] [] pos) (lift X.K W fun ρ M E Q => mtN Γ g "__len__" 0 ∧ tx ρ M E fun x M1 => InsD M1 C x ∧ mcD Γ g "__len__" x 0 [] M1 (fun _ _ => False) fun d M2 => ∃ i : Int, d = .int i ∧ 0 ≤ i ∧ i < 2 ^ 63 ∧ Q (.int i) M2) := by
  rcases mtN_dec Γ g "__len__" 0 with hmt | hmt
  case inr => exact PE.never fun σ H Q ⟨ρ, M, E, Qd, R, ⟨t, _⟩, _⟩ => hmt t
  obtain ⟨a, sp, dfl, emt, k, f, fd, ps, hk, cl, me, F, hps, dvs, dss, bi, vd, rd⟩ := mt_get G hC hmt
  have rm : Room (k + 1) X.A := (G.room hcm).mono hk
  refine PE.imp (pe_callB (id := "len") (call_lenO (E := fun _ _ _ => False) cl me F rm bi vd (fun pins σ H s e s' I c => absurd c (G.cx0 _ _ _ _ _))) hgx nm (by decide +kernel) (pa_cons ho pa_nil hst) (by decide) (by decide) hst rfl) fun σ H Q ⟨ρ, M, E, Qd, R, ⟨_, t⟩, k', x'⟩ => ?_
  refine ⟨ρ, M, E, _, R, t, fun d M1 v H1 e1 R1 r1 ⟨hi, t1⟩ => ?_, x'⟩
  obtain ⟨p, fs, rfl, h1⟩ := hi
  cases r1
  obtain ⟨dx, vfs, w1, _⟩ := R1.mem _ _ h1
  unfold mcD at t1
  rw [emt] at t1
  obtain ⟨t1, t2, t3, t4⟩ := t1
  have l2 := (rd H1).length
  refine ⟨p, dx, vfs, rfl, w1, ?_, .ref p :: ([] ++ dfl.drop (dfl.length - (a - 0))), M1, _, _, R1.mem, .cons (.ref p) (rd _), t4, fun d M' v H' e m r q => ?_, fun z M' cc dd H' e m rx q => q.elim⟩
  · rw [List.length_cons, ← l2, List.length_drop]; omega
  · obtain ⟨i, rfl, h0, h2, q⟩ := q
    cases r
    exact ⟨i, rfl, h0, h2, k' _ _ _ _ (e1.trans e) (R_of' R1 e m) (.int i) q⟩
theorem oeq_ok (G : Good CX X T Γ W lv) (hcm : T.calm = true) {g : Nat} {C : Addr} (hC : (Γ.gv g).insOf = some C) {tx ty : TD} {a b : Expr} {pos : Pos} (ha : PE X a (lift X.K W tx)) (hb : PE X b (lift X.K W ty)) (hmk : behindInMarks .Eq b = false) :
    PE X (.Compare a [.Eq] [b] pos) (lift X.K W fun ρ M E Q => mtN Γ g "__eq__" 1 ∧ tx ρ M E fun x M1 => ty ρ M1 E fun y M2 => InsD M2 C x ∧ (∃ t, tyD M2 y = some t ∧ Γ.nf t C = true) ∧ mcD Γ g "__eq__" x 1 [y] M2 (fun _ _ => False) fun d M3 => ∃ c, d = .bl c ∧ Q (.bl c) M3) := by
  rcases mtN_dec Γ g "__eq__" 1 with hmt | hmt
  case inr => exact PE.never fun σ H Q ⟨ρ, M, E, Qd, R, ⟨t, _⟩, _⟩ => hmt t
  obtain ⟨a', sp, dfl, emt, k, f, fd, ps, hk, cl, me, F, hps, dvs, dss, bi, vd, rd⟩ := mt_get G hC hmt
  have rm : Room k X.A := (G.room hcm).mono (by omega)
  refine PE.imp (pe_cmpR (op_eqO (E := fun _ _ _ => False) cl me F rm bi vd (fun pins σ H s e s' I c => absurd c (G.cx0 _ _ _ _ _))) ha hb hmk) fun σ H Q ⟨ρ, M, E, Qd, R, ⟨_, t⟩, k', x'⟩ => ?_
  refine lift2 (r := fun x y H Q => ∃ a dx fs, x = .ref a ∧ H a = some (.ins C dx fs) ∧ (∃ t, TyE X.K H y t ∧ PySem.W.notFirst X.K C t = true) ∧ liftSp X.K (a' + 1) sp (.ref a :: y :: dvs) H (fun v H2 => ∃ b, v = .bl b ∧ Q (.bl b) H2) fun _ _ _ => False) (rd := fun x y M2 E Q => InsD M2 C x ∧ (∃ t, tyD M2 y = some t ∧ Γ.nf t C = true) ∧ mcD Γ g "__eq__" x 1 [y] M2 (fun _ _ => False) fun d M3 => ∃ c, d = .bl c ∧ Q (.bl c) M3) ⟨ρ, M, E, Qd, R, t, k', x'⟩ fun d e v u M2 H2 ρ E Qd R r1 r2 t k x => ?_
  obtain ⟨⟨p, fs, rfl, h1⟩, ⟨ty, h2, h3⟩, t1⟩ := t
  cases r1
  obtain ⟨dx, vfs, w1, _⟩ := R.mem _ _ h1
  unfold mcD at t1
  rw [emt] at t1
  obtain ⟨t1, t2, t3, t4⟩ := t1
  have l2 := (rd H2).length
  refine ⟨p, dx, vfs, rfl, w1, ⟨_, tyD_E R.mem r2 h2, G.nf _ _ h3⟩, ?_, .ref p :: e :: dfl.drop (dfl.length - (a' - 1)), M2, _, _, R.mem, .cons (.ref p) (.cons r2 (rd _)), t4, fun d M' v H' e m r q => ?_, fun z M' cc dd H' e m rx q => q.elim⟩
  · rw [List.length_cons, List.length_cons, ← l2, List.length_drop]; omega
  · obtain ⟨c, rfl, q⟩ := q
    cases r
    exact ⟨c, rfl, k _ _ _ _ e (R_of' R e m) (.bl c) q⟩
theorem oeqT_ok (G : Good CX X T Γ W lv) (hcm : T.calm = true) {g : Nat} {C : Addr} (hC : (Γ.gv g).insOf = some C) {tx ty : TD} {a b : Expr} {pos : Pos} (ha : PE X a (lift X.K W tx)) (hb : PE X b (lift X.K W ty)) (hmk : behindInMarks .Eq b = false) :
    PT X (.Compare a [.Eq] [b] pos) (liftT X.K W fun ρ M E Q => mtN Γ g "__eq__" 1 ∧ tx ρ M E fun x M1 => ty ρ M1 E fun y M2 => InsD M2 C x ∧ (∃ t, tyD M2 y = some t ∧ Γ.nf t C = true) ∧ mcD Γ g "__eq__" x 1 [y] M2 (fun _ _ => False) fun d M3 => ∃ c, d = .bl c ∧ Q c M3) := by
  rcases mtN_dec Γ g "__eq__" 1 with hmt | hmt
  case inr => exact ⟨fun pins s σ H Q I ⟨ρ, M, E, Qd, R, ⟨t, _⟩, _⟩ => absurd t hmt⟩
  obtain ⟨a', sp, dfl, emt, k, f, fd, ps, hk, cl, me, F, hps, dvs, dss, bi, vd, rd⟩ := mt_get G hC hmt
  have rm : Room k X.A := (G.room hcm).mono (by omega)
  refine PT.imp (pt_cmpR (op_eqO (E := fun _ _ _ => False) cl me F rm bi vd (fun pins σ H s e s' I c => absurd c (G.cx0 _ _ _ _ _))) ha hb hmk) fun σ H Q ⟨ρ, M, E, Qd, R, ⟨_, t⟩, k', x'⟩ => ?_
  refine ⟨ρ, M, E, _, R, t, fun d M1 v H1 e1 R1 r1 t1 => ⟨ρ, M1, E, _, R1, t1, fun e M2 u H2 e2 R2 r2 t2 => ?_, fun y M' c d H' e' => x' y M' c d H' (e1.trans e')⟩, x'⟩
  obtain ⟨⟨p, fs, rfl, h1⟩, ⟨ty, h2, h3⟩, t1⟩ := t2
  cases r1
  obtain ⟨dx, vfs, w1, _⟩ := R2.mem _ _ h1
  unfold mcD at t1
  rw [emt] at t1
  obtain ⟨t1, t2, t3, t4⟩ := t1
  have l2 := (rd H2).length
  refine ⟨p, dx, vfs, rfl, w1, ⟨_, tyD_E R2.mem r2 h2, G.nf _ _ h3⟩, ?_, .ref p :: e :: dfl.drop (dfl.length - (a' - 1)), M2, _, _, R2.mem, .cons (.ref p) (.cons r2 (rd _)), t4, fun d M' v H' ee m r q => ?_, fun z M' cc dd H' e m rx q => q.elim⟩
  · rw [List.length_cons, List.length_cons, ← l2, List.length_drop]; omega
  · obtain ⟨c, rfl, q⟩ := q
    cases r
    exact ⟨c, rfl, c, rfl, k' _ _ _ ((e1.trans e2).trans ee) (R_of' R2 ee m) q⟩
/-- C(e, .., k = v) -/
theorem run_makeNS {k n : Nat} {f C : Addr} {fd : FuncData} {ps ks : List Str} {sp : Sp} {E : L2.St → XK} {g : List Value → List Value → List Value} {gV : List V → List V → List V} {pins : List (Addr × Obj)} {σ : L2.St} {H : Hp} {s : Shared} {Q : VK} {us ws : List Value} {vs zs : List V}
    (M : Mk X.K C f) (F : FnOk X.prog X.w X.K X.mg X.base CX k f fd ps sp) (hr : Room (k + 1) X.A) (hb : KBn X.K fd ps (n + 1) ks g gV) (hx : PassesAt CX X σ (E σ)) (I : Inv X pins σ H s) (r : Vals vs us) (rz : Vals zs ws) (l1 : vs.length = n) (l2 : zs.length = ks.length)
    (h : ∀ x dx, H x = none → H dx = none → dx ≠ x → sp (gV (.ref x :: vs) zs) (upd (upd H dx (.own x)) x (.ins C dx [])) (fun v H2 => v = .non ∧ Q (.ref x) H2) (E σ)) :
    wpAny (model X.prog X.w) X.A (call (.ref C) us (ks.zip ws)) (EP X pins σ Q) X.xe s := by
  have hq := h (s.heap.objs.size + 1) s.heap.objs.size (I.hok.fresh (Nat.le_succ _)) (I.hok.fresh (Nat.le_refl _)) (Nat.ne_of_lt (Nat.lt_succ_self _))
  have I2 := Inv.made (C := C) I
  have r1 : Vals (V.ref (s.heap.objs.size + 1) :: vs) (Value.ref (s.heap.objs.size + 1) :: us) := .cons rfl r
  have r2 := hb.rel r1 rz
  have e1 : (Value.ref (s.heap.objs.size + 1) :: us).length = n + 1 := r1.length.symm.trans (congrArg Nat.succ l1)
  have e2 : ws.length = ks.length := rz.length.symm.trans l2
  refine wpAny_call (make_map (f := f) I.kIn M.makes M.init (beq_iff_eq.mp M.fn) (codeAny_mono (F.run _ X.stack _ _ ⟨Value.ref (s.heap.objs.size + 1) :: us, ks.zip ws⟩ (g (Value.ref (s.heap.objs.size + 1) :: us) ws) _ _ (E σ) (hr.make C us (ks.zip ws))
    (I2.env0.make C us (ks.zip ws)) (hb.to _ (Value.ref (s.heap.objs.size + 1) :: us) ws I2.kIn e1 e2) r2 hq) fun r s' hq' => ?_))
  cases r with
  | error e => exact hx pins _ _ e s' I2 hq'
  | ok fl =>
    cases fl with
    | ret u =>
      obtain ⟨v, H', I3, rv, ev, q3⟩ := I2.after hq'
      subst ev
      exact ⟨rv, ⟨V.ref (s.heap.objs.size + 1), H', I3, rfl, q3⟩⟩
    | next => exact False.elim hq'
    | brk => exact False.elim hq'
    | cont => exact False.elim hq'
theorem mkk_ok (G : Good CX X T Γ W lv) (hcm : T.calm = true) {g np : Nat} {x : Str} {ks : List Str} {ta tz : TDs} {e : Expr} {es : List Expr} {kws : List Keyword} {p pos : Pos} (hg : T.gn[g]? = some (x, none)) (hgl : Gl X x) (hpl : (x == ("__debug__" : Str)) = false)
    (ha : PA X (e :: es) (liftA X.K W ta)) (hz : PK X kws (liftA X.K W tz)) (hks : kws.map (·.arg) = ks.map some)
    (hst : starEach (e :: es) X.env = (false, eval e X.env) :: starEach es X.env) (hpl2 : (starEach (e :: es) X.env).any (·.1) = false) :
    PE X (.Call (.Name x p) (e :: es) kws pos) (lift X.K W fun ρ M E Q => isIns (Γ.gv g) ∧ (Γ.kwc g np ks).isSome = true ∧ ta ρ M E fun ds M1 => tz ρ M1 E fun ws M2 => mkkD Γ g np ks ds ws M2 E Q) := by
  cases hk : Γ.kwc g np ks with
  | none => exact PE.never fun σ H Q ⟨ρ, M, E, Qd, R, ⟨_, t, _⟩, _⟩ => by simp at t
  | some pat =>
    have go := G.glob g x _ hg
    cases gv : Γ.gv g with
    | fn n sp dfl => rw [gv] at go; exact go.elim
    | val d => exact PE.never fun σ H Q ⟨ρ, M, E, Qd, R, ⟨t, _⟩, _⟩ => t
    | err C fs tx => exact PE.never fun σ H Q ⟨ρ, M, E, Qd, R, ⟨t, _⟩, _⟩ => t
    | cls C => exact PE.never fun σ H Q ⟨ρ, M, E, Qd, R, ⟨t, _⟩, _⟩ => t
    | cla C i =>
      cases i with
      | none => exact PE.never fun σ H Q ⟨ρ, M, E, Qd, R, ⟨t, _⟩, _⟩ => t
      | some i =>
        obtain ⟨n', sp, dfl⟩ := i
        rw [gv] at go
        obtain ⟨k, f, fd, ps, gg, gV, hlv, Mk, F, hb, hrel⟩ := G.kwm g x np ks pat C _ hg gv hk
        have hm : X.mg x = some (.ref C) := go.1
        obtain ⟨a1, a2, a3⟩ := kw_all pos X.env hks
        refine ⟨fun pins s σ H Q I q => ?_⟩
        obtain ⟨ρ, M, E, Qd, R, ⟨_, _, t⟩, kq, kx⟩ := q
        refine wpAny_Call_Name_kw (ld_glob I hgl hm ?_ hpl)
        refine PySem.W.callWith_KW (h₀ := X.base) I.ok.mod.kin Mk.kp a1 (wpAny_mono (ha.run pos pins s σ H (fun vs H1 => ∃ ds M1, TX H H1 ∧ Rel X.K ρ M1 σ H1 ∧ Reps X.K H1 ds vs ∧ tz ρ M1 E fun ws M2 => mkkD Γ g np ks ds ws M2 E Qd) I ⟨ρ, M, E, _, R, t, fun ds M1 vs H1 e1 R1 r1 t1 => ⟨ds, M1, e1, R1, r1, t1⟩, kx⟩) (fun us s1 hh => ?_) (fun _ _ z => z)) (by rw [back_any, hpl2, a3]; rfl) hst
        obtain ⟨vs, H1, I1, rv1, ds, M1, e1, R1, r1, t1⟩ := hh
        rw [a2]
        refine wpAny_mono (hz.run pos pins s1 σ H1 (fun zs H2 => ∃ ws M2, TX H1 H2 ∧ Rel X.K ρ M2 σ H2 ∧ Reps X.K H2 ws zs ∧ mkkD Γ g np ks ds ws M2 E Qd) I1 ⟨ρ, M1, E, _, R1, t1, fun ws M2 zs H2 e2 R2 r2 t2 => ⟨ws, M2, e2, R2, r2, t2⟩, fun x M' c d H' e' => kx x M' c d H' (e1.trans e')⟩) (fun ws s2 hh => ?_) (fun _ _ z => z)
        obtain ⟨zs, H2, I2, rz, ws, M2, e2, R2, r2, t2⟩ := hh
        refine ⟨I2.kIn, ?_⟩
        unfold mkkD at t2
        rw [gv, hk] at t2
        obtain ⟨l1, l2, t2⟩ := t2
        refine run_makeNS (E := WE W) (n := np) Mk F ((G.room hcm).mono hlv) hb (G.pass σ) I2 rv1 rz (by rw [← r1.length]; exact l1) (by rw [← r2.length]; exact l2) fun y dx hy hdx hne => ?_
        have ex := TX.newI (C := C) hy hdx hne
        obtain ⟨rr, hl⟩ := hrel (upd (upd H2 dx (.own y)) y (.ins C dx [])) (.ref y) (.ref y) ds vs ws zs l1 l2 (.ref y) ((r1.mono e2).mono ex) (r2.mono ex)
        have m2 := R2.mem.newI (C := C) hy hdx hne
        refine ⟨hl, _, M2.put y (.ins C []), E, _, m2, rr, t2 y (R2.mem.free hy), fun d' M' v' H' e m r q => ?_, fun x' M' c dd H' e m rx q => kx x' M' c dd H' (((e1.trans e2).trans ex).trans e) (R_of' (R_of' R2 ex m2) e m) rx q⟩
        obtain ⟨rfl, q⟩ := q
        cases r
        exact ⟨rfl, kq _ _ _ _ (((e1.trans e2).trans ex).trans e) (R_of' (R_of' R2 ex m2) e m) (.ref y) q⟩
end
end DL
namespace DL
open PySem PySem.Spec L2
section
variable {CX : CXT} {Γ : Gm} {lv : Nat}
theorem lift0 {K : PySem.W.Frag} {W : WX} {td : TD} {σ : St} {H : Hp} {Q : VK} (h : lift K W td σ H Q) : ∃ ρ M E Qd, Rel K ρ M σ H ∧ td ρ M E Qd ∧
  (∀ d M' v H', TX H H' → Rel K ρ M' σ H' → Rep K H' d v → Qd d M' → Q v H') ∧
  (∀ x M' cls dd H', TX H H' → Rel K ρ M' σ H' → RelX K H' x cls dd → E x M' → W cls dd σ H') := h
/-- the end of a step that changes neither slots nor memory -/
theorem R_of {K : PySem.W.Frag} {ρ : DEnv} {M M' : Mm} {σ : St} {H H' : Hp} (R : Rel K ρ M σ H) (e : TX H H') (m : RelM K M' H') : Rel K ρ M' σ H' := ⟨R.env.mono e, m⟩
abbrev liftO (K : PySem.W.Frag) (W : WX) (td : DEnv → Mm → EK → (Option Int → Mm → Prop) → Prop) : TO := fun σ H Q => ∃ ρ M E Qd, Rel K ρ M σ H ∧ td ρ M E Qd ∧
  (∀ d M' H', TX H H' → Rel K ρ M' σ H' → Qd d M' → Q d H') ∧
  (∀ x M' cls dd H', TX H H' → Rel K ρ M' σ H' → RelX K H' x cls dd → E x M' → W cls dd σ H')
theorem mt_L {X : Cx} {id : String} {r : V → List V → Hp → VK → Prop} (h : MtM X id r) : MtR X id r := h
theorem PTs.imp {X : Cx} {e : List Expr} {t t' : TT} (h : PTs X e t) (i : ∀ σ H Q, t' σ H Q → t σ H Q) : PTs X e t' := ⟨fun pins s σ H Q I q => h.run pins s σ H Q I (i σ H Q q)⟩
theorem PO.imp {X : Cx} {e : Option Expr} {t t' : TO} (h : PO X e t) (i : ∀ σ H Q, t' σ H Q → t σ H Q) : PO X e t' := ⟨fun pins s σ H Q I q => h.run pins s σ H Q I (i σ H Q q)⟩

theorem form_ok {T : Tb} {m : Exs} {vs : List Expr} (hs : chkEs T m vs = true) (hn : vs.length < 30) (pos : Pos) (env : PySem.Env) : methodCallForm (vs.length + ([] : List Keyword).length) (backTo pos (starEach vs env)) (backToKw pos (keywordEach [] env)) = true := by
  have h1 := starAll_ok hs env
  have h2 : ((backTo pos (starEach vs env)).all fun x => !x.1) = true := by
    rw [List.all_eq_true]
    intro x hx
    have h3 : (backTo pos (starEach vs env)).any (·.1) = false := by rw [back_any]; exact h1
    rw [List.any_eq_false] at h3
    simpa using h3 x hx
  unfold methodCallForm
  rw [h2]
  have h4 : (backToKw pos (keywordEach [] env)) = [] := by rfl
  rw [h4]
  simp
  exact hn
mutual
theorem soundE : ∀ (m : Ex) {X : Cx} {T : Tb} {W : WX} (G : Good CX X T Γ W lv) (e : Expr), chkE T m e = true → PE X e (lift X.K W (evE Γ m))
  | .var i, X, T, W, G, e, h => by
    cases e <;> first | (simp [chkE] at h; done) | skip
    simp only [chkE, Bool.and_eq_true, decide_eq_true_eq] at h
    obtain ⟨p1, p2, _⟩ := plainN_ok h.2
    refine PE.imp (pe_var (by rw [G.n]; exact h.1.1) (G.vis h.1.2) p1 p2) fun σ H Q q => ?_
    obtain ⟨ρ, M, E, Qd, R, t, k, _⟩ := q
    simp only [evE] at t
    split at t
    · rename_i d hd
      obtain ⟨v, hv, r⟩ := R.env.at_ i d hd
      exact ⟨v, hv, k _ _ _ _ (TX.refl H) R r t⟩
    · exact t.elim
  | .int i, X, T, W, G, e, h => by
    cases e <;> first | (simp [chkE] at h; done) | skip
    rename_i c _ _
    cases c <;> simp [chkE] at h
    subst h
    refine PE.imp pe_int fun σ H Q q => ?_
    obtain ⟨ρ, M, E, Qd, R, t, k, _⟩ := q
    exact k _ _ _ _ (TX.refl H) R (.int _) t
  | .bl i, X, T, W, G, e, h => by
    cases e <;> first | (simp [chkE] at h; done) | skip
    rename_i c _ _
    cases c <;> simp [chkE] at h
    subst h
    refine PE.imp pe_bl fun σ H Q q => ?_
    obtain ⟨ρ, M, E, Qd, R, t, k, _⟩ := q
    exact k _ _ _ _ (TX.refl H) R (.bl _) t
  | .non, X, T, W, G, e, h => by
    cases e <;> first | (simp [chkE] at h; done) | skip
    rename_i c _ _
    cases c <;> simp [chkE] at h
    refine PE.imp pe_non fun σ H Q q => ?_
    obtain ⟨ρ, M, E, Qd, R, t, k, _⟩ := q
    exact k _ _ _ _ (TX.refl H) R .non t
  | .str x, X, T, W, G, e, h => by
    cases e <;> first | (simp [chkE] at h; done) | skip
    rename_i c _ _
    cases c <;> simp [chkE] at h
    subst h
    refine PE.imp pe_str fun σ H Q q => ?_
    obtain ⟨ρ, M, E, Qd, R, t, k, _⟩ := q
    exact k _ _ _ _ (TX.refl H) R (.str _) t
  | .gl g, X, T, W, G, e, h => by
    cases e <;> first | (simp [chkE] at h; done) | skip
    rename_i x pos
    simp only [chkE, Bool.and_eq_true, decide_eq_true_eq] at h
    obtain ⟨p1, p2, _⟩ := plainN_ok h.2
    have go := G.glob g x none h.1.1
    cases gv : Γ.gv g with
    | fn n sp dfl => rw [gv] at go; exact go.elim
    | err C fs tx =>
      refine PE.never fun σ H Q q => ?_
      obtain ⟨ρ, M, E, Qd, R, t, k, _⟩ := q
      simp only [evE, gv] at t
    | cls C =>
      refine PE.never fun σ H Q q => ?_
      obtain ⟨ρ, M, E, Qd, R, t, k, _⟩ := q
      simp only [evE, gv] at t
    | cla C i =>
      refine PE.never fun σ H Q q => ?_
      obtain ⟨ρ, M, E, Qd, R, t, k, _⟩ := q
      simp only [evE, gv] at t
    | val d =>
      rw [gv] at go
      obtain ⟨u, v, hm, r, rd⟩ := go
      refine PE.imp (pe_glob (G.gl h.1.2) hm r p1) fun σ H Q q => ?_
      obtain ⟨ρ, M, E, Qd, R, t, k, _⟩ := q
      simp only [evE, gv] at t
      exact k _ _ _ _ (TX.refl H) R (rd H) t
  | .op o a b, X, T, W, G, e, h => by
    cases e <;> first | (simp [chkE] at h; done) | skip
    simp only [chkE, Bool.and_eq_true, decide_eq_true_eq] at h
    obtain ⟨⟨rfl, ha⟩, hb⟩ := h
    refine PE.imp (pe_op (op_ok _) (soundE a G _ ha) (soundE b G _ hb)) fun σ H Q q => ?_
    refine lift2 (rd := fun x y M E Q => opD o x y M Q) q fun d e v u M2 H2 ρ E Qd R r1 r2 t k x => ?_
    exact ⟨d, e, M2, Qd, R.mem, r1, r2, t, fun d' M' v' H' e m r q => k _ _ _ _ e (R_of R e m) r q⟩
  | .neg a, X, T, W, G, e, h => by
    cases e <;> first | (simp [chkE] at h; done) | skip
    rename_i o a' pos
    cases o <;> first | (simp [chkE] at h; done) | skip
    simp only [chkE] at h
    refine PE.imp (pe_un un_neg (soundE a G _ h)) fun σ H Q q => ?_
    refine lift1 (rd := fun x M E Q => match x with | .int i => Q (.int (-i)) M | _ => False) q fun d v M1 H1 ρ E Qd R r1 t k x => ?_
    cases d <;> try (exact t.elim)
    cases r1
    exact ⟨_, rfl, k _ _ _ _ (TX.refl _) R (.int _) t⟩
  | .cmp o a b, X, T, W, G, e, h => by
    match e, h with
    | .Compare a' [o'] [b'] pos, h =>
      simp only [chkE, Bool.and_eq_true, decide_eq_true_eq, Bool.not_eq_true'] at h
      obtain ⟨⟨⟨rfl, hm⟩, ha⟩, hb⟩ := h
      refine PE.imp (pe_cmpR (cmp_ok G.hu o) (soundE a G _ ha) (soundE b G _ hb) hm) fun σ H Q q => ?_
      refine lift2 (rd := fun x y M E Q => ∃ c, cmpD M o x y = some c ∧ Q (.bl c) M) q fun d e v u M2 H2 ρ E Qd R r1 r2 t k x => ?_
      exact ⟨d, e, M2, Qd, R.mem, r1, r2, t, fun d' M' v' H' e m r q => k _ _ _ _ e (R_of R e m) r q⟩
  | .chn o1 o2 a b c, X, T, W, G, e, h => by
    match e, h with
    | .Compare a' [o1', o2'] [b', c'] pos, h =>
      simp only [chkE, Bool.and_eq_true, decide_eq_true_eq, Bool.not_eq_true'] at h
      obtain ⟨⟨⟨⟨⟨rfl, rfl⟩, hm⟩, ha⟩, hb⟩, hc⟩ := h
      refine PE.imp (pe_chain (cmp_ok G.hu o1) (cmp_ok G.hu o2) (soundE a G _ ha) (soundE b G _ hb) (soundE c G _ hc) hm) fun σ H Q q => ?_
      obtain ⟨ρ, M, E, Qd, R, t, k, x⟩ := q
      simp only [evE] at t
      refine ⟨ρ, M, E, _, R, t, fun d M1 v H1 e1 R1 r1 t1 => ⟨ρ, M1, E, _, R1, t1, fun e M2 u H2 e2 R2 r2 t2 => ?_, fun y M' c d H' e' => x y M' c d H' (e1.trans e')⟩, x⟩
      obtain ⟨c1, hc1, t2⟩ := t2
      refine ⟨d, e, M2, fun z M' => z = .bl c1 ∧ M' = M2, R2.mem, r1.mono e2, r2, ⟨c1, hc1, rfl, rfl⟩, fun z M' v' H' e' m' r' w => ?_⟩
      obtain ⟨rfl, rfl⟩ := w
      cases r'
      refine ⟨c1, rfl, ?_⟩
      have R3 : Rel X.K ρ M' σ H' := R_of R2 e' m'
      cases c1 with
      | false => exact k _ _ _ _ ((e1.trans e2).trans e') R3 (.bl _) t2
      | true =>
        exact ⟨ρ, M', E, _, R3, t2, fun g M3 w3 H3 e3 R3 r3 t3 => ⟨e, g, M3, Qd, R3.mem, r2.mono (e'.trans e3), r3, t3, fun d' M4 v4 H4 e4 m4 r4 q4 => k _ _ _ _ ((((e1.trans e2).trans e').trans e3).trans e4) (R_of R3 e4 m4) r4 q4⟩,
          fun y M' c d H'' e'' => x y M' c d H'' (((e1.trans e2).trans e').trans e'')⟩
  | .bop o es, X, T, W, G, e, h => by
    cases e <;> first | (simp [chkE] at h; done) | skip
    simp only [chkE, Bool.and_eq_true, decide_eq_true_eq] at h
    obtain ⟨⟨rfl, hn⟩, hs⟩ := h
    exact soundB o es G _ _ hs
  | .not a, X, T, W, G, e, h => by
    cases e <;> first | (simp [chkE] at h; done) | skip
    rename_i o a' pos
    cases o <;> first | (simp [chkE] at h; done) | skip
    simp only [chkE] at h
    refine PE.imp (pe_not (soundE a G _ h)) fun σ H Q q => ?_
    refine lift1 (r := fun x H1 Q => ∃ c, x = .bl c ∧ Q (.bl (!c)) H1) (rd := fun x M E Q => match x with | .bl i => Q (.bl (!i)) M | _ => False) q fun d v M1 H1 ρ E Qd R r1 t k x => ?_
    cases d <;> try (exact t.elim)
    cases r1
    exact ⟨_, rfl, k _ _ _ _ (TX.refl _) R (.bl _) t⟩
  | .ite c a b, X, T, W, G, e, h => by
    cases e <;> first | (simp [chkE] at h; done) | skip
    simp only [chkE, Bool.and_eq_true] at h
    refine PE.imp (pe_ifExp (soundT c G _ h.1.1) (soundE a G _ h.1.2) (soundE b G _ h.2)) fun σ H Q q => ?_
    obtain ⟨ρ, M, E, Qd, R, t, k, x⟩ := q
    simp only [evE] at t
    refine ⟨ρ, M, E, _, R, t, fun c M1 H1 e1 R1 t1 => ?_, x⟩
    cases c with
    | true => exact ⟨ρ, M1, E, Qd, R1, t1, fun d M' v H' e' => k d M' v H' (e1.trans e'), fun y M' c d H' e' => x y M' c d H' (e1.trans e')⟩
    | false => exact ⟨ρ, M1, E, Qd, R1, t1, fun d M' v H' e' => k d M' v H' (e1.trans e'), fun y M' c d H' e' => x y M' c d H' (e1.trans e')⟩
  | .tup es, X, T, W, G, e, h => by
    cases e <;> first | (simp [chkE] at h; done) | skip
    simp only [chkE] at h
    refine PE.imp (pe_tup (soundEs es G _ h)) fun σ H Q q => ?_
    refine liftA1 (r := fun xs H1 Q => xs.length ≤ sizeLine ∧ ∀ p, H1 p = none → Q (.ref p) (upd H1 p (.tup xs))) (rd := fun ds M1 E Q => ds.length ≤ sizeLine ∧ Q (.tup ds) M1) q fun ds vs M1 H1 ρ E Qd R rs t k x => ?_
    exact ⟨by rw [← rs.length]; exact t.1, fun p hp => k _ _ _ _ (TX.new hp) (R_of R (TX.new hp) (R.mem.new hp)) (.tup (SqT.of upd_same) (rs.mono (TX.new hp))) t.2⟩
  | .lst es, X, T, W, G, e, h => by
    cases e <;> first | (simp [chkE] at h; done) | skip
    simp only [chkE] at h
    refine PE.imp (pe_lst (soundEs es G _ h)) fun σ H Q q => ?_
    refine liftA1 (r := fun xs H1 Q => xs.length ≤ sizeLine ∧ ∀ p, H1 p = none → Q (.ref p) (upd H1 p (.lst xs))) (rd := fun ds M1 E Q => ds.length ≤ sizeLine ∧ ∀ p, M1 p = none → Q (.ref p) (M1.put p (.lst ds))) q fun ds vs M1 H1 ρ E Qd R rs t k x => ?_
    exact ⟨by rw [← rs.length]; exact t.1, fun p hp => k _ _ _ _ (TX.new hp) (R_of R (TX.new hp) (R.mem.newL hp rs)) (.ref p) (t.2 p (R.mem.free hp))⟩
  | .ix a b, X, T, W, G, e, h => by
    cases e <;> first | (simp [chkE] at h; done) | skip
    simp only [chkE, Bool.and_eq_true] at h
    refine PE.imp (pe_ix ix_ok (soundE a G _ h.1) (soundE b G _ h.2) (plainIx_ok h.2)) fun σ H Q q => ?_
    refine lift2 (rd := fun x y M E Q => ixD x y M Q) q fun d e v u M2 H2 ρ E Qd R r1 r2 t k x => ?_
    exact ⟨d, e, M2, Qd, R.mem, r1, r2, t, fun d' M' v' H' e m r q => k _ _ _ _ e (R_of R e m) r q⟩
  | .slc a lo hi, X, T, W, G, e, h => by
    match e, h with
    | .Subscript a' (.Slice lo' hi' none p2) pos, h =>
      simp only [chkE, Bool.and_eq_true] at h
      refine PE.imp (pe_slice slc_ok (soundE a G _ h.1.1) (soundO lo G _ h.1.2) (soundO hi G _ h.2)) fun σ H Q q => ?_
      obtain ⟨ρ, M, E, Qd, R, t, k, x⟩ := q
      simp only [evE] at t
      refine ⟨ρ, M, E, _, R, t, fun d M1 v H1 e1 R1 r1 t1 => ⟨ρ, M1, E, _, R1, t1, fun l M2 H2 e2 R2 t2 => ⟨ρ, M2, E, _, R2, t2, fun u M3 H3 e3 R3 t3 => ?_,
        fun y M' c d H' e' => x y M' c d H' ((e1.trans e2).trans e')⟩, fun y M' c d H' e' => x y M' c d H' (e1.trans e')⟩, x⟩
      exact ⟨d, M3, Qd, R3.mem, r1.mono (e2.trans e3), t3, fun d' M' v' H' e m r q => k _ _ _ _ (((e1.trans e2).trans e3).trans e) (R_of R3 e m) r q⟩
  | .call g es, X, T, W, G, e, h => by
    match e, h with
    | .Call (.Name f p) [] [] pos, h => simp [chkE] at h
    | .Call (.Name f p) (v :: vs) [] pos, h =>
      simp only [chkE, Bool.and_eq_true, decide_eq_true_eq] at h
      obtain ⟨⟨⟨⟨⟨hcm, h1⟩, h2⟩, h3⟩, _⟩, hs⟩ := h
      obtain ⟨p1, _, _⟩ := plainN_ok h3
      split at h1
      · rename_i y n k hg
        simp only [Bool.and_eq_true, decide_eq_true_eq] at h1
        obtain ⟨⟨rfl, hn⟩, hk⟩ := h1
        have go := G.glob g f _ hg
        cases gv : Γ.gv g with
        | val d => rw [gv] at go; exact go.elim
        | err C fs tx => rw [gv] at go; exact go.elim
        | cls C => rw [gv] at go; exact go.elim
        | cla C i => rw [gv] at go; exact go.elim
        | fn n' sp dfl =>
          rw [gv] at go
          obtain ⟨rfl, rfl, a, fd, ps, F, hm, hk', hps, hb⟩ := go
          obtain ⟨dvs, dss, bi, vd, rd⟩ := hb _ hk
          cases es with
          | nil => simp [chkEs] at hs
          | cons m ms =>
            have hs' := hs
            simp only [chkEs, Bool.and_eq_true] at hs'
            refine PE.imp (pe_callSD F (G.room hcm) (G.gl h2) hm hk' bi vd G.pass (soundEs (.cons m ms) G _ hs) p1 (star_ok hs'.1 vs X.env) (by rw [back_any]; exact starAll_ok hs'.2 X.env)) fun σ H Q q => ?_
            refine liftA1 (r := fun vs H1 Q => liftSp X.K n' sp (vs ++ dvs) H1 Q (WE W σ)) (rd := fun ds M1 E Q => callD (Γ.gv g) (Exs.cons m ms).len ds M1 E Q) q fun ds vs M1 H1 ρ E Qd R rs t k x => ?_
            rw [gv] at t
            obtain ⟨t1, t2, t3, t4⟩ := t
            refine ⟨?_, ds ++ _, M1, E, Qd, R.mem, rs.append (rd H1), t4, fun d M' v H' e m r q => k _ _ _ _ e (R_of R e m) r q, fun y M' c dd H' e m r q => x _ _ _ _ _ e (R_of R e m) r q⟩
            have l2 := (rd H1).length
            rw [List.length_append, ← rs.length, ← l2, List.length_drop, t3]
            omega
      · cases h1
  | .bi b es, X, T, W, G, e, h => by
    match e, h with
    | .Call (.Name f p) [] [] pos, h => simp [chkE] at h
    | .Call (.Name f p) (v :: vs) [] pos, h =>
      simp only [chkE, Bool.and_eq_true, decide_eq_true_eq] at h
      obtain ⟨⟨⟨⟨⟨hcm, rfl⟩, h1⟩, h2⟩, _⟩, hs⟩ := h
      cases es with
      | nil => simp [chkEs] at hs
      | cons m ms =>
        have hs' := hs
        simp only [chkEs, Bool.and_eq_true] at hs'
        have fin : ∀ {σ : St} {H : Hp} {Q : VK}, lift X.K W (evE Γ (.bi b (.cons m ms))) σ H Q → tCB (liftC X.K (biD b)) (liftA X.K W (evEs Γ (.cons m ms))) σ H Q := fun q =>
          liftA1 (rd := fun ds M1 E Q => biD b ds M1 Q) q fun ds vs M1 H1 ρ E Qd R rs t k x => ⟨ds, M1, Qd, R.mem, rs, t, fun d' M' v' H' e m r q => k _ _ _ _ e (R_of R e m) r q⟩
        have A := soundEs (.cons m ms) G _ hs
        have s1 := star_ok hs'.1 vs X.env
        have s2 : (backTo pos (starEach vs X.env)).any (·.1) = false := by rw [back_any]; exact starAll_ok hs'.2 X.env
        have hx : b ≠ .gcd → X.mg b.name = none := fun hb => by
          rw [if_neg hb] at h1
          exact G.xn _ (by simpa using h1)
        cases b with
        | gcd =>
          rw [if_pos rfl] at h1
          exact PE.imp (pe_callBfun (bi_ok (G.calm hcm) .gcd) (G.gl h2) (G.gcd h1) A (by decide) s1 s2) fun σ H Q q => fin q
        | int => exact PE.imp (pe_callTy (T := "int") (bi_ok (G.calm hcm) .int) (G.gl h2) (hx (by decide)) (by decide +kernel) A (by decide) (by decide) s1 s2) fun σ H Q q => fin q
        | list => exact PE.imp (pe_callTy (T := "list") (bi_ok (G.calm hcm) .list) (G.gl h2) (hx (by decide)) (by decide +kernel) A (by decide) (by decide) s1 s2) fun σ H Q q => fin q
        | tuple => exact PE.imp (pe_callTy (T := "tuple") (bi_ok (G.calm hcm) .tuple) (G.gl h2) (hx (by decide)) (by decide +kernel) A (by decide) (by decide) s1 s2) fun σ H Q q => fin q
        | len => exact PE.imp (pe_callB (id := "len") (bi_ok (G.calm hcm) .len) (G.gl h2) (hx (by decide)) (by decide +kernel) A (by decide) (by decide) s1 s2) fun σ H Q q => fin q
        | abs => exact PE.imp (pe_callB (id := "abs") (bi_ok (G.calm hcm) .abs) (G.gl h2) (hx (by decide)) (by decide +kernel) A (by decide) (by decide) s1 s2) fun σ H Q q => fin q
        | isi => exact PE.imp (pe_callB (id := "isinstance") (bi_ok (G.calm hcm) .isi) (G.gl h2) (hx (by decide)) (by decide +kernel) A (by decide) (by decide) s1 s2) fun σ H Q q => fin q
        | max => exact PE.imp (pe_callB (id := "max") (bi_ok (G.calm hcm) .max) (G.gl h2) (hx (by decide)) (by decide +kernel) A (by decide) (by decide) s1 s2) fun σ H Q q => fin q
        | min => exact PE.imp (pe_callB (id := "min") (bi_ok (G.calm hcm) .min) (G.gl h2) (hx (by decide)) (by decide +kernel) A (by decide) (by decide) s1 s2) fun σ H Q q => fin q
        | sum => exact PE.imp (pe_callB (id := "sum") (bi_ok (G.calm hcm) .sum) (G.gl h2) (hx (by decide)) (by decide +kernel) A (by decide) (by decide) s1 s2) fun σ H Q q => fin q
        | any => exact PE.imp (pe_callB (id := "any") (bi_ok (G.calm hcm) .any) (G.gl h2) (hx (by decide)) (by decide +kernel) A (by decide) (by decide) s1 s2) fun σ H Q q => fin q
        | str => exact PE.imp (pe_callTy (T := "str") (bi_ok (G.calm hcm) .str) (G.gl h2) (hx (by decide)) (by decide +kernel) A (by decide) (by decide) s1 s2) fun σ H Q q => fin q
        | divmod => exact PE.imp (pe_callB (id := "divmod") (bi_ok (G.calm hcm) .divmod) (G.gl h2) (hx (by decide)) (by decide +kernel) A (by decide) (by decide) s1 s2) fun σ H Q q => fin q
        | all => exact PE.imp (pe_callB (id := "all") (bi_ok (G.calm hcm) .all) (G.gl h2) (hx (by decide)) (by decide +kernel) A (by decide) (by decide) s1 s2) fun σ H Q q => fin q
  | .mth .append a es, X, T, W, G, e, h => by
    match e, h with
    | .Call (.Attribute a' m ap) [v] [] cp, h =>
      simp only [chkE, Bool.and_eq_true, decide_eq_true_eq] at h
      obtain ⟨⟨⟨rfl, hl⟩, ha⟩, hs⟩ := h
      match es, hs with
      | .cons _ (.cons _ _), hs => simp [chkEs] at hs
      | .cons m1 .nil, hs =>
        have hs' := hs
        simp only [chkEs, Bool.and_true] at hs'
        have s1 := star_ok hs' [] X.env
        refine PE.imp (pe_bm PySem.F.plainAttrs_list PySem.F.slot_list_append PySem.F.type_list_append mt_append (soundE a G _ ha) (soundEs (.cons m1 .nil) G _ hs) (attr_ok ha _ _)
          (by rw [s1]; rfl) hl s1 (by rfl)) fun σ H Q q => ?_
        obtain ⟨ρ, M, E, Qd, R, t, k, x⟩ := q
        simp only [evE] at t
        refine ⟨ρ, M, E, _, R, t, fun d M1 v H1 e1 R1 r1 t1 => ?_, x⟩
        obtain ⟨hL, t1⟩ := t1
        cases d <;> try (exact hL.elim)
        cases r1
        obtain ⟨xs, hL⟩ := hL
        obtain ⟨vs, sq, _⟩ := R1.mem.sq hL
        refine ⟨.inl ⟨rfl, vs, sq⟩, ρ, M1, E, _, R1, t1, fun ds M2 ws H2 e2 R2 r2 t2 => ?_, fun y M' c d H' e' => x y M' c d H' (e1.trans e')⟩
        match ds, t2 with
        | [d], t2 =>
          obtain ⟨ys, h1, h2, t2⟩ := t2
          obtain ⟨w, rfl, rd⟩ := r2.one
          obtain ⟨vs, h3, rv⟩ := R2.mem _ _ h1
          have e3 : TX H2 (upd H2 _ (.lst (vs ++ [w]))) := TX.put h3 (fun _ z => by cases z) (fun _ _ z => by cases z)
          exact ⟨_, vs, w, rfl, rfl, h3, by rw [← rv.length]; exact h2, k _ _ _ _ ((e1.trans e2).trans e3) (R_of R2 e3 (R2.mem.putL h3 (rv.append (.cons rd .nil)))) .non t2⟩
  | .mth .pop a es, X, T, W, G, e, h => by
    match e, h with
    | .Call (.Attribute a' m ap) [] [] cp, h =>
      simp only [chkE, Bool.and_eq_true, decide_eq_true_eq] at h
      obtain ⟨⟨⟨rfl, hl⟩, ha⟩, hs⟩ := h
      match es, hs with
      | .nil, hs =>
        refine PE.imp (pe_bm0 PySem.F.plainAttrs_list PySem.F.slot_list_pop PySem.F.type_list_pop mt_pop (soundE a G _ ha) (attr_ok ha _ _) hl) fun σ H Q q => ?_
        obtain ⟨ρ, M, E, Qd, R, t, k, x⟩ := q
        simp only [evE, evEs] at t
        refine ⟨ρ, M, E, _, R, t, fun d M1 v H1 e1 R1 r1 t1 => ?_, x⟩
        obtain ⟨hL, t1⟩ := t1
        cases d <;> try (exact hL.elim)
        cases r1
        obtain ⟨xs, y, h1, t2⟩ := t1
        obtain ⟨vs, h3, rv⟩ := R1.mem _ _ h1
        have hlen := rv.length
        rw [List.length_append, List.length_singleton] at hlen
        obtain ⟨w, hw, rw'⟩ := rv.get (i := xs.length) (d := y) (by simp)
        have e3 : TX H1 (upd H1 _ (.lst vs.dropLast)) := TX.put h3 (fun _ z => by cases z) (fun _ _ z => by cases z)
        have rr : Reps X.K H1 xs vs.dropLast := by
          have := rv.take xs.length
          rw [List.take_left] at this
          rw [List.dropLast_eq_take, ← hlen]
          simpa using this
        exact ⟨.inl ⟨rfl, vs, SqL.of h3⟩, _, vs, w, rfl, rfl, h3, by rw [← hlen]; simpa using hw, k _ _ _ _ (e1.trans e3) (R_of R1 e3 (R1.mem.putL h3 rr)) (rw'.mono e3) t2⟩
  | .mk g es, X, T, W, G, e, h => by
    match e, h with
    | .Call (.Name f p) vs [] pos, h =>
      simp only [chkE, Bool.and_eq_true, decide_eq_true_eq, Bool.not_eq_true', decide_eq_false_iff_not] at h
      obtain ⟨⟨⟨⟨⟨hcm, _⟩, h1⟩, h2⟩, h3⟩, hs⟩ := h
      obtain ⟨p1, _, _⟩ := plainN_ok h3
      refine mk_ok G hcm h1 (G.gl h2) p1 (soundEs es G vs hs) ?_
      cases vs with
      | nil =>
        cases es with
        | nil => exact .inl ⟨rfl, rfl, fun ρ M E Q h => h⟩
        | cons m ms => simp [chkEs] at hs
      | cons v vs =>
        cases es with
        | nil => simp [chkEs] at hs
        | cons m ms =>
          simp only [chkEs, Bool.and_eq_true] at hs
          exact .inr ⟨v, vs, rfl, star_ok hs.1 vs X.env, by rw [back_any]; exact starAll_ok hs.2 X.env⟩
  | .mkk g es ks zs, X, T, W, G, e, h => by
    match e, h with
    | .Call (.Name f p) [] kws pos, h => simp [chkE] at h
    | .Call (.Name f p) (v :: vs) kws pos, h =>
      simp only [chkE, Bool.and_eq_true, decide_eq_true_eq] at h
      obtain ⟨⟨⟨⟨⟨⟨⟨⟨hcm, h1⟩, h2⟩, h3⟩, _⟩, _⟩, hks⟩, hs⟩, hz⟩ := h
      obtain ⟨p1, _, _⟩ := plainN_ok h3
      cases es with
      | nil => simp [chkEs] at hs
      | cons m ms =>
        have hs' := hs
        simp only [chkEs, Bool.and_eq_true] at hs'
        exact mkk_ok G hcm h1 (G.gl h2) p1 (soundEs (.cons m ms) G (v :: vs) hs) (soundK zs G kws hz) hks (star_ok hs'.1 vs X.env) (starAll_ok hs X.env)
  | .mc g a m es, X, T, W, G, e, h => by
    match e, h with
    | .Call (.Attribute a' m' ap) vs [] cp, h =>
      simp only [chkE, Bool.and_eq_true, decide_eq_true_eq] at h
      obtain ⟨⟨⟨⟨⟨⟨hcm, rfl⟩, hl⟩, hn⟩, _⟩, ha⟩, hs⟩ := h
      cases hc : (Γ.gv g).insOf with
      | none => exact PE.never fun σ H Q ⟨ρ, M, E, Qd, R, t, _⟩ => by simp only [evE, hc] at t
      | some C =>
        have key := mc_ok (m := m) (n := es.len) G hcm hc (soundE a G a' ha) (soundEs es G vs hs) (attr_ok ha _ _) hl (by
          cases vs with
          | nil =>
            cases es with
            | nil => exact .inl ⟨rfl, rfl, fun ρ M E Q h => h⟩
            | cons m ms => simp [chkEs] at hs
          | cons v vs =>
            cases es with
            | nil => simp [chkEs] at hs
            | cons m ms =>
              have hs' := hs
              simp only [chkEs, Bool.and_eq_true] at hs'
              refine .inr ⟨v, vs, rfl, star_ok hs'.1 vs X.env, by rw [back_any]; exact starAll_ok hs'.2 X.env, ?_⟩
              exact form_ok hs hn cp X.env)
        exact PE.imp key fun σ H Q ⟨ρ, M, E, Qd, R, t, k, x⟩ => ⟨ρ, M, E, Qd, R, by simp only [evE, hc] at t; exact t, k, x⟩
  | .prp g a f, X, T, W, G, e, h => by
    cases e <;> first | (simp [chkE] at h; done) | skip
    simp only [chkE, Bool.and_eq_true, decide_eq_true_eq] at h
    obtain ⟨⟨⟨hcm, rfl⟩, _⟩, ha⟩ := h
    cases hc : (Γ.gv g).insOf with
    | none => exact PE.never fun σ H Q ⟨ρ, M, E, Qd, R, t, _⟩ => by simp only [evE, hc] at t
    | some C => exact PE.imp (pr_ok (f := f) G hcm hc (soundE a G _ ha) (attr_ok ha _ _)) fun σ H Q ⟨ρ, M, E, Qd, R, t, k, x⟩ => ⟨ρ, M, E, Qd, R, by simp only [evE, hc] at t; exact t, k, x⟩
  | .lno g a, X, T, W, G, e, h => by
    match e, h with
    | .Call (.Name f p) [a'] [] pos, h =>
      simp only [chkE, Bool.and_eq_true, decide_eq_true_eq] at h
      obtain ⟨⟨⟨⟨⟨hcm, rfl⟩, hx⟩, hg⟩, _⟩, ha⟩ := h
      cases hc : (Γ.gv g).insOf with
      | none => exact PE.never fun σ H Q ⟨ρ, M, E, Qd, R, t, _⟩ => by simp only [evE, hc] at t
      | some C => exact PE.imp (lno_ok G hcm hc (soundE a G _ ha) (G.gl hg) (G.xn _ (by simpa using hx)) (star_ok ha [] X.env)) fun σ H Q ⟨ρ, M, E, Qd, R, t, k, x⟩ => ⟨ρ, M, E, Qd, R, by simp only [evE, hc] at t; exact t, k, x⟩
  | .iso a g, X, T, W, G, e, h => by
    match e, h with
    | .Call (.Name f p) [a', .Name y py] [] pos, h =>
      simp only [chkE, Bool.and_eq_true, decide_eq_true_eq] at h
      obtain ⟨⟨⟨⟨⟨⟨⟨hcm, rfl⟩, hx⟩, hg⟩, hy⟩, hgy⟩, hpy⟩, ha⟩ := h
      obtain ⟨p1, _, _⟩ := plainN_ok hpy
      have go := G.glob g y none hy
      cases hc : (Γ.gv g).insOf with
      | none => exact PE.never fun σ H Q ⟨ρ, M, E, Qd, R, t, _⟩ => by simp only [evE, hc] at t
      | some C =>
        have hm : X.mg y = some (.ref C) := by
          cases gv : Γ.gv g with
          | cla D i => rw [gv] at hc go; cases hc; exact go.1
          | _ => rw [gv] at hc; cases hc
        exact PE.imp (iso_ok (C := C) G (soundE a G _ ha) (G.gl hg) (G.xn _ (by simpa using hx)) (G.gl hgy) hm p1 (fun es => star_ok ha es X.env)) fun σ H Q ⟨ρ, M, E, Qd, R, t, k, x⟩ => ⟨ρ, M, E, Qd, R, by simp only [evE, hc] at t; exact t, k, x⟩
  | .oeq g a b, X, T, W, G, e, h => by
    match e, h with
    | .Compare a' [.Eq] [b'] pos, h =>
      simp only [chkE, Bool.and_eq_true, Bool.not_eq_true'] at h
      obtain ⟨⟨⟨⟨hcm, hm⟩, _⟩, ha⟩, hb⟩ := h
      cases hc : (Γ.gv g).insOf with
      | none => exact PE.never fun σ H Q ⟨ρ, M, E, Qd, R, t, _⟩ => by simp only [evE, hc] at t
      | some C => exact PE.imp (oeq_ok G hcm hc (soundE a G _ ha) (soundE b G _ hb) hm) fun σ H Q ⟨ρ, M, E, Qd, R, t, k, x⟩ => ⟨ρ, M, E, Qd, R, by simp only [evE, hc] at t; exact t, k, x⟩
  | .fld a f, X, T, W, G, e, h => by
    cases e <;> first | (simp [chkE] at h; done) | skip
    simp only [chkE, Bool.and_eq_true, decide_eq_true_eq] at h
    obtain ⟨rfl, ha⟩ := h
    refine PE.imp (pe_fld (soundE a G _ ha) (attr_ok ha _ _)) fun σ H Q q => ?_
    refine lift1 (r := fun x H1 Q => ∃ a C dx fs v, x = .ref a ∧ H1 a = some (.ins C dx fs) ∧ Cls X.K C ∧ NoAttr X.K C f ∧ fs.lookup f = some v ∧ Q v H1)
      (rd := fun x M1 E Q => match x with | .ref p => ∃ C fs d, M1 p = some (.ins C fs) ∧ Γ.fld C f ∧ fs.lookup f = some d ∧ Q d M1 | _ => False) q fun d v M1 H1 ρ E Qd R r1 t k x => ?_
    cases d <;> try (exact t.elim)
    cases r1
    obtain ⟨C, fs, d, h1, h2, h3, t⟩ := t
    obtain ⟨dx, vfs, h4, _, h5, _⟩ := R.mem _ _ h1
    obtain ⟨v, h6, r⟩ := h5 _ _ h3
    exact ⟨_, C, dx, vfs, v, rfl, h4, (G.fld _ _ h2).1, (G.fld _ _ h2).2, h6, k _ _ _ _ (TX.refl _) R r t⟩
  | .lc own tg it c e', X, T, W, G, e, h => by
    match e, h with
    | .ListComp elt [⟨tg', it', ifs, asy⟩] scope pos, h =>
      simp only [chkE, Bool.and_eq_true, decide_eq_true_eq] at h
      obtain ⟨⟨⟨⟨⟨⟨⟨hcm, rfl⟩, hb⟩, hss⟩, ht⟩, hi⟩, hc⟩, he⟩ := h
      have hss' : ∀ i ∈ tg.ss, i ∈ own := fun i hi => by simpa using List.all_eq_true.mp hss i hi
      refine PE.imp (pe_lc (own := T.own own) (te := lift X.K W0 (evE Γ e')) (tt := liftT X.K W0 (evC Γ c)) (g := liftG X.K tg.ss (tgD tg)) (G.calm hcm) G.nd (soundI it G tg' it' hi) (by rw [G.n, G.sc]; exact blkOk_by hb)
        (fun s H C cl fp => soundG (G.blk hcm s H scope C cl fp) tg tg' ht) (fun s H C cl fp => soundC c (G.blk hcm s H scope C cl fp) ifs hc) (fun s H C cl fp => soundE e' (G.blk hcm s H scope C cl fp) elt he) (iter_ok hi X.env)) fun σ H Q q => ?_
      obtain ⟨ρ, M, E, Qd, R, t, k, x⟩ := q
      simp only [evE] at t
      refine ⟨ρ, M, E, _, R, t, fun items G' M1 J H1 e1 R1 w t1 => ?_, x⟩
      intro p hp
      rw [own_map]
      refine comp_ok w R1 hp (t1 p (R1.mem.free hp)) (fun M5 H5 e5 m5 q5 => k _ _ _ _ (e1.trans e5) (R_of R1 e5 m5) (.ref p) q5) fun d xv M H2 H3 Kk Nx e2 m2 rx st kk => ?_
      refine ⟨d, wipeD ρ own, M, _, rx, ⟨wipe_rel (R1.env.mono e2) own, m2⟩, st, fun ρ2 σ2 R2 l2 s2 t2 => ⟨wipe_back hss' l2 s2, ρ2, M, E0, _, R2, t2, fun b M3 H4 e3 R3 t3 => ?_, fun _ _ _ _ _ _ _ _ z => z.elim⟩⟩
      cases b with
      | true => exact ⟨ρ2, M3, E0, _, R3, t3, fun d4 M4 v4 H5 e4 R4 r4 t4 => kk (some d4) M4 (some v4) H5 ((e2.trans e3).trans e4) R4.mem r4 t4, fun _ _ _ _ _ _ _ _ z => z.elim⟩
      | false => exact kk none M3 none H4 (e2.trans e3) R3.mem trivial t3
  | .callk g es ks zs, X, T, W, G, e, h => by
    match e, h with
    | .Call (.Name x p) vs kws pos, h =>
      simp only [chkE, Bool.and_eq_true, decide_eq_true_eq] at h
      obtain ⟨⟨⟨⟨⟨⟨⟨hcm, hg⟩, hgl⟩, hpl⟩, hne⟩, hks⟩, hes⟩, hzs⟩ := h
      cases hgn : T.gn[g]? with
      | none => rw [hgn] at hg; cases hg
      | some yo =>
        obtain ⟨y, o⟩ := yo
        rw [hgn] at hg
        cases o with
        | none => cases hg
        | some nk =>
          have e : x = y := by simpa using hg
          subst e
          refine kw_ok G hcm hgn (G.gl hgl) (plainN_ok hpl).1 (soundEs es G vs hes) (soundK zs G kws hzs) hks ?_
          cases vs with
          | nil =>
            cases es with
            | nil => exact .inl ⟨rfl, fun ρ M E Q t => t⟩
            | cons m ms => simp [chkEs] at hes
          | cons v vs =>
            cases es with
            | nil => simp [chkEs] at hes
            | cons m ms =>
              have hs' := hes
              simp only [chkEs, Bool.and_eq_true] at hs'
              exact .inr ⟨v, vs, rfl, star_ok hs'.1 vs X.env, starAll_ok hes X.env⟩
  | .tyn t, X, T, W, G, e, h => by
    cases e <;> first | (simp [chkE] at h; done) | skip
    rename_i x pos
    simp only [chkE, Bool.and_eq_true, decide_eq_true_eq] at h
    obtain ⟨⟨⟨ht, rfl⟩, hx⟩, hg⟩ := h
    have nm : X.mg (Str.ofString t.nm) = none := G.xn _ (by simpa using hx)
    refine PE.imp (pe_bltn (v := .ty t.nm) (u := .type t.nm) (G.gl hg) nm (by cases t <;> first | (exact absurd rfl ht) | decide +kernel) rfl (by cases t <;> decide) (by cases t <;> decide)) fun σ H Q q => ?_
    obtain ⟨ρ, M, E, Qd, R, t1, k, _⟩ := q
    simp only [evE] at t1
    exact k _ _ _ _ (TX.refl H) R (.ty _) t1
  | .rev a, X, T, W, G, e, h => by
    match e, h with
    | .Subscript a' (.Slice none none (some (.UnaryOp .USub (.Constant (.int j) k1 p1) p2)) p3) pos, h =>
      simp only [chkE, Bool.and_eq_true, decide_eq_true_eq] at h
      obtain ⟨rfl, ha⟩ := h
      refine PE.imp (pe_revL (soundE a G a' ha)) fun σ H Q q => ?_
      refine lift1 (r := fun x H1 Q => ∃ a xs, x = .ref a ∧ SqL X.K H1 a xs ∧ ∀ p, H1 p = none → Q (.ref p) (upd H1 p (.lst xs.reverse))) (rd := fun x M1 E Q => revD x M1 Q) q fun d v M1 H1 ρ E Qd R r1 t k x => ?_
      cases d <;> try (exact t.elim)
      cases r1
      obtain ⟨ds, hm, t⟩ := t
      obtain ⟨vs, sq, rs⟩ := R.mem.sq hm
      exact ⟨_, vs, rfl, sq, fun p hp => k _ _ _ _ (TX.new hp) (R_of R (TX.new hp) (R.mem.newL hp (Reps.rev rs))) (.ref _) (t p (R.mem.free hp))⟩
  | .fmt a, X, T, W, G, e, h => by
    match e, h with
    | .FormattedValue a' c none pos, h =>
      simp only [chkE, Bool.and_eq_true, decide_eq_true_eq] at h
      obtain ⟨rfl, ha⟩ := h
      refine PE.imp (pe_fmt (soundE a G a' ha)) fun σ H Q q => ?_
      refine lift1 (r := fun x H1 Q => (∃ y : Str, x = .str y ∧ y.length ≤ sizeLine ∧ Q (.str y) H1) ∨ ∃ i : Int, x = .int i ∧ i.natAbs.log2 < 1920 ∧ Q (.str (toString i)) H1) (rd := fun x M1 E Q => fmtD x M1 Q) q fun d v M1 H1 ρ E Qd R r1 t k x => ?_
      cases d <;> try (exact t.elim)
      · cases r1; exact .inr ⟨_, rfl, t.1, k _ _ _ _ (TX.refl _) R (.str _) t.2⟩
      · cases r1; exact .inl ⟨_, rfl, t.1, k _ _ _ _ (TX.refl _) R (.str _) t.2⟩
  | .fst es, X, T, W, G, e, h => by
    match e, h with
    | .JoinedStr (v1 :: v2 :: vs) pos, h =>
      simp only [chkE] at h
      obtain ⟨ts, hj, kj⟩ := soundJ es G _ h
      refine PE.imp (pe_joined hj) fun σ H Q q => ?_
      obtain ⟨ρ, M, E, Qd, R, t, k, x⟩ := q
      simp only [evE] at t
      exact kj _ σ H _ ⟨ρ, M, E, _, R, t, fun out M' H' e' R' q' => k _ _ _ _ e' R' (.str _) q', x⟩
  | .smt m a e1, X, T, W, G, e, h => by
    cases m with
    | join =>
      match e, h with
      | .Call (.Attribute a' nm ap) [v] [] cp, h =>
        simp only [chkE, Bool.and_eq_true, decide_eq_true_eq] at h
        obtain ⟨⟨⟨rfl, hl⟩, ha⟩, he⟩ := h
        refine PE.imp (pe_join (soundE a G a' ha) (soundE e1 G v he) (star_ok he [] X.env) (attr_ok ha _ _) hl) fun σ H Q q => ?_
        exact smt_imp q fun x y v u M2 H2 R2 r1 r2 Q' Qd t k => by
          cases x <;> try (exact t.elim)
          cases r1
          obtain ⟨ds, ys, hs, hy, hz, t⟩ := t
          obtain ⟨p, ws, rfl, sq, rs⟩ := seqD_sq hs r2 R2
          have e := strsD_eq hy rs
          subst e
          exact ⟨_, p, ys, rfl, rfl, sq, hz, k _ (.str _) t⟩
    | zfill =>
      match e, h with
      | .Call (.Attribute a' nm ap) [v] [] cp, h =>
        simp only [chkE, Bool.and_eq_true, decide_eq_true_eq] at h
        obtain ⟨⟨⟨rfl, hl⟩, ha⟩, he⟩ := h
        refine PE.imp (pe_m1 PySem.F.slot_str_zfill PySem.F.type_str_zfill mt_zfill (soundE a G a' ha) (soundE e1 G v he) (star_ok he [] X.env) (attr_ok ha _ _) hl) fun σ H Q q => ?_
        exact smt_imp q fun x y v u M2 H2 R2 r1 r2 Q' Qd t k => by
          cases x <;> try (exact t.elim)
          cases r1
          obtain ⟨i, rfl, hp, t⟩ := t
          cases r2
          exact ⟨_, i, rfl, rfl, hp, k _ (.str _) t⟩
  | .xfl a f, X, T, W, G, e, h => by
    cases e <;> first | (simp [chkE] at h; done) | skip
    simp only [chkE, Bool.and_eq_true, decide_eq_true_eq, Bool.not_eq_true'] at h
    obtain ⟨⟨hcm, rfl⟩, ha⟩ := h
    cases hx : Γ.exn with
    | none =>
      refine PE.imp (pe_fld (soundE a G _ ha) (attr_ok ha _ _)) fun σ H Q q => ?_
      obtain ⟨ρ, M, E, Qd, R, t, k, x⟩ := q
      simp only [evE, hx] at t
      exact ⟨ρ, M, E, _, R, t, fun d M1 v H1 e1 R1 r1 t1 => t1.elim, x⟩
    | some z =>
      obtain ⟨p, C, dx⟩ := z
      obtain ⟨Y, oe, pn, rfl, hz, hf⟩ := G.exn hcm p C dx hx
      cases dx with
      | none =>
        refine PE.imp (pe_fld (soundE a G _ ha) (attr_ok ha _ _)) fun σ H Q q => ?_
        obtain ⟨ρ, M, E, Qd, R, t, k, x⟩ := q
        simp only [evE, hx] at t
        exact ⟨ρ, M, E, _, R, t, fun d M1 v H1 e1 R1 r1 t1 => t1.elim, x⟩
      | some dd =>
        by_cases hfl : Γ.xfl C f
        · refine PE.imp (pe_xf (G.xfl _ _ hfl).1 (G.xfl _ _ hfl).2 hz hf (soundE a G _ ha) (attr_ok ha _ _)) fun σ H Q q => ?_
          refine lift1 (r := fun x H1 Q => x = .ref p ∧ Value.ref C = .ref C ∧ ∃ (d2 : Addr) (fs : List (Str × V)) (v : V), some dd = some d2 ∧ H1 d2 = some (.xd fs) ∧ fs.lookup f = some v ∧ Q v H1)
            (rd := fun x M1 E Q => match x with | .ref b => b = p ∧ Γ.xfl C f ∧ ∃ fs d, M1 dd = some (.exd fs) ∧ fs.lookup f = some d ∧ Q d M1 | _ => False) (by
              obtain ⟨ρ, M, E, Qd, R, t, k, x⟩ := q
              simp only [evE, hx] at t
              refine ⟨ρ, M, E, Qd, R, ?_, k, x⟩
              refine Eq.mp ?_ t
              congr 1
              funext d M1
              cases d <;> rfl) fun d v M1 H1 ρ E Qd R r1 t k x => ?_
          cases d <;> try (exact t.elim)
          cases r1
          obtain ⟨rfl, _, fs, d, h1, h2, t⟩ := t
          obtain ⟨vfs, h4, h5⟩ := R.mem _ _ h1
          obtain ⟨v, h6, r⟩ := h5 _ _ h2
          exact ⟨rfl, rfl, dd, vfs, v, rfl, h4, h6, k _ _ _ _ (TX.refl _) R r t⟩
        · refine PE.imp (pe_fld (soundE a G _ ha) (attr_ok ha _ _)) fun σ H Q q => ?_
          obtain ⟨ρ, M, E, Qd, R, t, k, x⟩ := q
          simp only [evE, hx] at t
          refine ⟨ρ, M, E, _, R, t, fun d M1 v H1 e1 R1 r1 t1 => ?_, x⟩
          cases d <;> first | (exact t1.elim) | (exact absurd t1.2.1 hfl)
  | .xis a g, X, T, W, G, e, h => by
    match e, h with
    | .Call (.Name x p) [a', .Name y py] [] pos, h =>
      simp only [chkE, Bool.and_eq_true, decide_eq_true_eq, Bool.not_eq_true'] at h
      obtain ⟨⟨⟨⟨⟨⟨⟨hcm, rfl⟩, hxn⟩, hgx⟩, hgn⟩, hgy⟩, hpl⟩, ha⟩ := h
      exact xis_ok G (soundE a G a' ha) (fun es => star_ok ha es X.env) hcm hxn (G.gl hgx) hgn (G.gl hgy) (plainN_ok hpl).1
theorem soundK : ∀ (m : Exs) {X : Cx} {T : Tb} {W : WX} (G : Good CX X T Γ W lv) (kws : List Keyword), chkEs T m (kws.map (·.value)) = true → PK X kws (liftA X.K W (evEs Γ m))
  | .nil, X, T, W, G, kws, h => by
    cases kws with
    | cons _ _ => simp [chkEs] at h
    | nil =>
      refine PK.imp pk_nil fun σ H Q q => ?_
      obtain ⟨ρ, M, E, Qd, R, t, k, _⟩ := q
      exact k _ _ _ _ (TX.refl H) R .nil t
  | .cons m ms, X, T, W, G, kws, h => by
    cases kws with
    | nil => simp [chkEs] at h
    | cons kw kws =>
      obtain ⟨nm, v, kp⟩ := kw
      simp only [List.map_cons, chkEs, Bool.and_eq_true] at h
      refine PK.imp (pk_cons (soundE m G v h.1) (soundK ms G kws h.2)) fun σ H Q q => ?_
      obtain ⟨ρ, M, E, Qd, R, t, k, x⟩ := q
      simp only [evEs] at t
      exact ⟨ρ, M, E, _, R, t, fun d M1 v H1 e1 R1 r1 t1 => ⟨ρ, M1, E, _, R1, t1, fun ds M2 vs H2 e2 R2 r2 t2 => k _ _ _ _ (e1.trans e2) R2 (.cons (r1.mono e2) r2) t2,
        fun x' M' c dd H' e' => x x' M' c dd H' (e1.trans e')⟩, x⟩
theorem soundJ : ∀ (m : Exs) {X : Cx} {T : Tb} {W : WX} (G : Good CX X T Γ W lv) (es : List Expr), chkEs T m es = true →
    ∃ ts, PJ X es ts ∧ ∀ acc σ H Q, liftJ X.K W (evJ Γ m acc) σ H Q → tJs ts acc σ H Q
  | .nil, X, T, W, G, es, h => by
    cases es with
    | cons _ _ => simp [chkEs] at h
    | nil => exact ⟨[], .nil, fun acc σ H Q ⟨ρ, M, E, Qd, R, t, k, x⟩ => k _ _ _ (TX.refl H) R t⟩
  | .cons m ms, X, T, W, G, es, h => by
    cases es with
    | nil => simp [chkEs] at h
    | cons e es =>
      simp only [chkEs, Bool.and_eq_true] at h
      obtain ⟨ts, hj, kj⟩ := soundJ ms G es h.2
      refine ⟨_ :: ts, .cons (soundE m G e h.1) hj, fun acc σ H Q ⟨ρ, M, E, Qd, R, t, k, x⟩ => ?_⟩
      simp only [evJ] at t
      refine ⟨ρ, M, E, _, R, t, fun d M1 v H1 e1 R1 r1 t1 => ?_, x⟩
      obtain ⟨y, rfl, hl, t1⟩ := t1
      cases r1
      exact ⟨y, rfl, hl, kj _ σ H1 Q ⟨ρ, M1, E, _, R1, t1, fun out M' H' e' R' q' => k out M' H' (e1.trans e') R' q', fun x' M' c dd H' e' => x x' M' c dd H' (e1.trans e')⟩⟩
theorem soundEs : ∀ (m : Exs) {X : Cx} {T : Tb} {W : WX} (G : Good CX X T Γ W lv) (es : List Expr), chkEs T m es = true → PA X es (liftA X.K W (evEs Γ m))
  | .nil, X, T, W, G, es, h => by
    cases es with
    | cons _ _ => simp [chkEs] at h
    | nil =>
      refine PA.imp pa_nil fun σ H Q q => ?_
      obtain ⟨ρ, M, E, Qd, R, t, k, _⟩ := q
      exact k _ _ _ _ (TX.refl H) R .nil t
  | .cons m ms, X, T, W, G, es, h => by
    cases es with
    | nil => simp [chkEs] at h
    | cons e es =>
      simp only [chkEs, Bool.and_eq_true] at h
      refine PA.imp (pa_cons (soundE m G e h.1) (soundEs ms G es h.2) (star_ok h.1 es X.env)) fun σ H Q q => ?_
      obtain ⟨ρ, M, E, Qd, R, t, k, x⟩ := q
      simp only [evEs] at t
      exact ⟨ρ, M, E, _, R, t, fun d M1 v H1 e1 R1 r1 t1 => ⟨ρ, M1, E, _, R1, t1, fun ds M2 vs H2 e2 R2 r2 t2 => k _ _ _ _ (e1.trans e2) R2 (.cons (r1.mono e2) r2) t2,
        fun y M' c d H' e' => x y M' c d H' (e1.trans e')⟩, x⟩
theorem soundO : ∀ (m : Exo) {X : Cx} {T : Tb} {W : WX} (G : Good CX X T Γ W lv) (e : Option Expr), chkO T m e = true → PO X e (liftO X.K W (evO Γ m))
  | .none, X, T, W, G, e, h => by
    cases e with
    | some _ => simp [chkO] at h
    | none =>
      refine PO.imp po_none fun σ H Q q => ?_
      obtain ⟨ρ, M, E, Qd, R, t, k, x⟩ := q
      exact k _ _ _ (TX.refl H) R t
  | .some m, X, T, W, G, e, h => by
    cases e with
    | none => simp [chkO] at h
    | some e =>
      simp only [chkO] at h
      refine PO.imp (po_some (soundE m G e h)) fun σ H Q q => ?_
      obtain ⟨ρ, M, E, Qd, R, t, k, x⟩ := q
      simp only [evO] at t
      refine ⟨ρ, M, E, _, R, t, fun d M1 v H1 e1 R1 r1 t1 => ?_, x⟩
      cases d <;> try (exact t1.elim)
      cases r1
      exact ⟨_, rfl, k _ _ _ e1 R1 t1⟩
theorem soundB (o : BoolOp) : ∀ (m : Exs) {X : Cx} {T : Tb} {W : WX} (G : Good CX X T Γ W lv) (es : List Expr) (pos : Pos), chkEs T m es = true → PE X (.BoolOp o es pos) (lift X.K W (evB Γ o m))
  | .nil, X, T, W, G, es, pos, h => PE.never fun σ H Q q => by
      obtain ⟨ρ, M, E, Qd, R, t, k, x⟩ := q
      simp only [evB] at t
  | .cons m ms, X, T, W, G, es, pos, h => by
    cases es with
    | nil => simp [chkEs] at h
    | cons e es =>
      simp only [chkEs, Bool.and_eq_true] at h
      cases ms with
      | nil =>
        cases es with
        | cons _ _ => simp [chkEs] at h
        | nil =>
          refine PE.imp (pe_one (soundE m G e h.1)) fun σ H Q q => ?_
          simp only [evB] at q
          exact q
      | cons m2 ms =>
        cases es with
        | nil => simp [chkEs] at h
        | cons e2 es =>
          have ih := soundB o (.cons m2 ms) G (e2 :: es) pos h.2
          cases o with
          | And =>
            refine PE.imp (pe_and (soundE m G e h.1) ih) fun σ H Q q => ?_
            obtain ⟨ρ, M, E, Qd, R, t, k, x⟩ := q
            simp only [evB] at t
            refine ⟨ρ, M, E, _, R, t, fun d M1 v H1 e1 R1 r1 t1 => ?_, x⟩
            cases d <;> try (exact t1.elim)
            rename_i c
            cases r1
            refine ⟨c, rfl, ?_⟩
            cases c with
            | true => exact ⟨ρ, M1, E, Qd, R1, t1, fun d M' v H' e' => k d M' v H' (e1.trans e'), fun y M' c d H' e' => x y M' c d H' (e1.trans e')⟩
            | false => exact k _ _ _ _ e1 R1 (.bl _) t1
          | Or =>
            refine PE.imp (pe_or (soundE m G e h.1) ih) fun σ H Q q => ?_
            obtain ⟨ρ, M, E, Qd, R, t, k, x⟩ := q
            simp only [evB] at t
            refine ⟨ρ, M, E, _, R, t, fun d M1 v H1 e1 R1 r1 t1 => ?_, x⟩
            cases d <;> try (exact t1.elim)
            rename_i c
            cases r1
            refine ⟨c, rfl, ?_⟩
            cases c with
            | false => exact ⟨ρ, M1, E, Qd, R1, t1, fun d M' v H' e' => k d M' v H' (e1.trans e'), fun y M' c d H' e' => x y M' c d H' (e1.trans e')⟩
            | true => exact k _ _ _ _ e1 R1 (.bl _) t1
theorem soundT : ∀ (m : Te) {X : Cx} {T : Tb} {W : WX} (G : Good CX X T Γ W lv) (e : Expr), chkT T m e = true → PT X e (liftT X.K W (evT Γ m))
  | .val a, X, T, W, G, e, h => by
    simp only [chkT, Bool.and_eq_true] at h
    have he : ∀ whole, isTrue e X.env whole = (do let v ← whole; standAt e.pos; holding [v] (truthy v)) := by
      intro whole
      cases e with
      | UnaryOp o a p => cases o <;> first | rfl | (have := h.2; simp at this)
      | BoolOp a b c => have := h.2; simp at this
      | IfExp a b c d => have := h.2; simp at this
      | Compare a b c d => have := h.2; simp at this
      | _ => rfl
    refine PT.imp (pt_truth (soundE a G e h.1) he) fun σ H Q q => ?_
    obtain ⟨ρ, M, E, Qd, R, t, k, x⟩ := q
    simp only [evT] at t
    refine ⟨ρ, M, E, _, R, t, fun d M1 v H1 e1 R1 r1 t1 => ?_, x⟩
    obtain ⟨c, hc, t1⟩ := t1
    exact ⟨c, truD_ok R1.mem r1 hc, k _ _ _ e1 R1 t1⟩
  | .cmp o a b, X, T, W, G, e, h => by
    match e, h with
    | .Compare a' [o'] [b'] pos, h =>
      simp only [chkT, Bool.and_eq_true, decide_eq_true_eq, Bool.not_eq_true'] at h
      obtain ⟨⟨⟨rfl, hm⟩, ha⟩, hb⟩ := h
      refine PT.imp (pt_cmpR (cmp_ok G.hu o) (soundE a G _ ha) (soundE b G _ hb) hm) fun σ H Q q => ?_
      obtain ⟨ρ, M, E, Qd, R, t, k, x⟩ := q
      simp only [evT] at t
      refine ⟨ρ, M, E, _, R, t, fun d M1 v H1 e1 R1 r1 t1 => ⟨ρ, M1, E, _, R1, t1, fun e M2 u H2 e2 R2 r2 t2 => ?_, fun y M' c d H' e' => x y M' c d H' (e1.trans e')⟩, x⟩
      obtain ⟨c1, hc1, t2⟩ := t2
      refine ⟨d, e, M2, fun z M' => z = .bl c1 ∧ M' = M2, R2.mem, r1.mono e2, r2, ⟨c1, hc1, rfl, rfl⟩, fun z M' v' H' e' m' r' w => ?_⟩
      obtain ⟨rfl, rfl⟩ := w
      cases r'
      exact ⟨c1, rfl, k _ _ _ ((e1.trans e2).trans e') (R_of R2 e' m') t2⟩
  | .chn o1 o2 a b c, X, T, W, G, e, h => by
    match e, h with
    | .Compare a' [o1', o2'] [b', c'] pos, h =>
      simp only [chkT, Bool.and_eq_true, decide_eq_true_eq, Bool.not_eq_true'] at h
      obtain ⟨⟨⟨⟨⟨rfl, rfl⟩, hm⟩, ha⟩, hb⟩, hc⟩ := h
      refine PT.imp (pt_chain (cmp_ok G.hu o1) (cmp_ok G.hu o2) (soundE a G _ ha) (soundE b G _ hb) (soundE c G _ hc) hm) fun σ H Q q => ?_
      obtain ⟨ρ, M, E, Qd, R, t, k, x⟩ := q
      simp only [evT] at t
      refine ⟨ρ, M, E, _, R, t, fun d M1 v H1 e1 R1 r1 t1 => ⟨ρ, M1, E, _, R1, t1, fun e M2 u H2 e2 R2 r2 t2 => ?_, fun y M' c d H' e' => x y M' c d H' (e1.trans e')⟩, x⟩
      obtain ⟨c1, hc1, t2⟩ := t2
      refine ⟨d, e, M2, fun z M' => z = .bl c1 ∧ M' = M2, R2.mem, r1.mono e2, r2, ⟨c1, hc1, rfl, rfl⟩, fun z M' v' H' e' m' r' w => ?_⟩
      obtain ⟨rfl, rfl⟩ := w
      cases r'
      refine ⟨c1, rfl, ?_⟩
      have R3 : Rel X.K ρ M' σ H' := R_of R2 e' m'
      cases c1 with
      | false => exact ⟨false, rfl, k _ _ _ ((e1.trans e2).trans e') R3 t2⟩
      | true =>
        refine ⟨ρ, M', E, _, R3, t2, fun g M3 w3 H3 e3 R3 r3 t3 => ?_, fun y M' c d H'' e'' => x y M' c d H'' (((e1.trans e2).trans e').trans e'')⟩
        obtain ⟨c2, hc2, t3⟩ := t3
        refine ⟨e, g, M3, fun z M' => z = .bl c2 ∧ M' = M3, R3.mem, r2.mono (e'.trans e3), r3, ⟨c2, hc2, rfl, rfl⟩, fun z M4 v4 H4 e4 m4 r4 w => ?_⟩
        obtain ⟨rfl, rfl⟩ := w
        cases r4
        exact ⟨c2, rfl, k _ _ _ ((((e1.trans e2).trans e').trans e3).trans e4) (R_of R3 e4 m4) t3⟩
  | .oeq g a b, X, T, W, G, e, h => by
    match e, h with
    | .Compare a' [.Eq] [b'] pos, h =>
      simp only [chkT, Bool.and_eq_true, Bool.not_eq_true'] at h
      obtain ⟨⟨⟨⟨hcm, hm⟩, hg⟩, ha⟩, hb⟩ := h
      cases hc : (Γ.gv g).insOf with
      | none => exact ⟨fun pins s σ H Q I ⟨ρ, M, E, Qd, R, t, _⟩ => by simp only [evT, hc] at t⟩
      | some C =>
        refine PT.imp (oeqT_ok G hcm hc (soundE a G a' ha) (soundE b G b' hb) hm) fun σ H Q ⟨ρ, M, E, Qd, R, t, k, x⟩ => ⟨ρ, M, E, Qd, R, by simp only [evT, hc] at t; exact t, k, x⟩
  | .bop o ts, X, T, W, G, e, h => by
    cases e <;> first | (simp [chkT] at h; done) | skip
    simp only [chkT, Bool.and_eq_true, decide_eq_true_eq] at h
    obtain ⟨⟨rfl, hn⟩, hs⟩ := h
    refine PT.imp (soundBT o ts G _ _ hs).pt fun σ H Q q => ?_
    obtain ⟨ρ, M, E, Qd, R, t, k, x⟩ := q
    simp only [evT] at t
    exact ⟨ρ, M, E, Qd, R, t, k, x⟩
  | .not t, X, T, W, G, e, h => by
    cases e <;> first | (simp [chkT] at h; done) | skip
    rename_i o a' pos
    cases o <;> first | (simp [chkT] at h; done) | skip
    simp only [chkT] at h
    refine PT.imp (pt_not (soundT t G _ h)) fun σ H Q q => ?_
    obtain ⟨ρ, M, E, Qd, R, t, k, x⟩ := q
    simp only [evT] at t
    exact ⟨ρ, M, E, _, R, t, fun b M1 H1 e1 R1 t1 => k _ _ _ e1 R1 t1, x⟩
theorem soundBT (o : BoolOp) : ∀ (m : Tes) {X : Cx} {T : Tb} {W : WX} (G : Good CX X T Γ W lv) (es : List Expr) (pos : Pos), chkTs T m es = true → PW X (.BoolOp o es pos) (liftT X.K W (evBT Γ o m))
  | .nil, X, T, W, G, es, pos, h => ⟨fun wh pins s σ H Q I q => by
      obtain ⟨ρ, M, E, Qd, R, t, k, x⟩ := q
      simp only [evBT] at t⟩
  | .cons m ms, X, T, W, G, es, pos, h => by
    cases es with
    | nil => simp [chkTs] at h
    | cons e es =>
      simp only [chkTs, Bool.and_eq_true] at h
      cases ms with
      | nil =>
        cases es with
        | cons _ _ => simp [chkTs] at h
        | nil =>
          have a := soundT m G e h.1
          have go : ∀ σ H Q, liftT X.K W (evBT Γ o (.cons m .nil)) σ H Q → liftT X.K W (evT Γ m) σ H Q := fun σ H Q q => by
            simp only [evBT] at q
            exact q
          cases o with
          | And => exact ⟨fun wh pins s σ H Q I q => (pw_and1 a).run wh pins s σ H Q I (go σ H Q q)⟩
          | Or => exact ⟨fun wh pins s σ H Q I q => (pw_or1 a).run wh pins s σ H Q I (go σ H Q q)⟩
      | cons m2 ms =>
        cases es with
        | nil => simp [chkTs] at h
        | cons e2 es =>
          have ih := soundBT o (.cons m2 ms) G (e2 :: es) pos h.2
          have a := soundT m G e h.1
          cases o with
          | And =>
            refine ⟨fun wh pins s σ H Q I q => (pw_and a ih).run wh pins s σ H Q I ?_⟩
            obtain ⟨ρ, M, E, Qd, R, t, k, x⟩ := q
            simp only [evBT] at t
            refine ⟨ρ, M, E, _, R, t, fun b M1 H1 e1 R1 t1 => ?_, x⟩
            cases b with
            | true => exact ⟨ρ, M1, E, Qd, R1, t1, fun d M' H' e' => k d M' H' (e1.trans e'), fun y M' c d H' e' => x y M' c d H' (e1.trans e')⟩
            | false => exact k _ _ _ e1 R1 t1
          | Or =>
            refine ⟨fun wh pins s σ H Q I q => (pw_or a ih).run wh pins s σ H Q I ?_⟩
            obtain ⟨ρ, M, E, Qd, R, t, k, x⟩ := q
            simp only [evBT] at t
            refine ⟨ρ, M, E, _, R, t, fun b M1 H1 e1 R1 t1 => ?_, x⟩
            cases b with
            | false => exact ⟨ρ, M1, E, Qd, R1, t1, fun d M' H' e' => k d M' H' (e1.trans e'), fun y M' c d H' e' => x y M' c d H' (e1.trans e')⟩
            | true => exact k _ _ _ e1 R1 t1
theorem soundC : ∀ (m : Teo) {X : Cx} {T : Tb} {W : WX} (G : Good CX X T Γ W lv) (es : List Expr), chkC T m es = true → PTs X es (liftT X.K W (evC Γ m))
  | .none, X, T, W, G, e, h => by
    cases e with
    | cons _ _ => simp [chkC] at h
    | nil =>
      refine PTs.imp pts_nil fun σ H Q q => ?_
      obtain ⟨ρ, M, E, Qd, R, t, k, x⟩ := q
      simp only [evC] at t
      exact k _ _ _ (TX.refl H) R t
  | .some m, X, T, W, G, e, h => by
    match e, h with
    | [e], h =>
      simp only [chkC] at h
      refine PTs.imp (pts_one (soundT m G e h)) fun σ H Q q => ?_
      simp only [evC] at q
      exact q
theorem soundI : ∀ (m : Si) {X : Cx} {T : Tb} {W : WX} (G : Good CX X T Γ W lv) (tg e : Expr), chkI T (isTup tg) m e = true → PI X tg e (liftI X.K W (evI Γ m))
  | .seq a, X, T, W, G, tg, e, h => by
    simp only [chkI] at h
    refine PI.imp (pi_seq (soundE a G e h)) fun σ H R q => ?_
    obtain ⟨ρ, M, E, Qd, R, t, k, x⟩ := q
    simp only [evI] at t
    refine ⟨ρ, M, E, _, R, t, fun d M1 v H1 e1 R1 r1 t1 => ?_, x⟩
    cases d <;> try (exact t1.elim)
    · obtain ⟨p, vs, rfl, sq, rs⟩ := r1.tup_inv
      exact ⟨p, rfl, .inr ⟨⟨vs, sq⟩, k _ _ _ _ _ e1 R1 (walkR_tup rs sq) t1⟩⟩
    · cases r1
      obtain ⟨ds, hm, t1⟩ := t1
      obtain ⟨vs, sq, rs⟩ := R1.mem.sq hm
      exact ⟨_, rfl, .inl ⟨⟨vs, sq⟩, k _ _ _ _ _ e1 R1 walkR_list t1⟩⟩
  | .rng1 a, X, T, W, G, tg, e, h => by
    match e, h with
    | .Call (.Name f p) [a'] [] pos, h =>
      simp only [chkI, Bool.and_eq_true, decide_eq_true_eq] at h
      obtain ⟨⟨⟨rfl, h1⟩, h2⟩, ha⟩ := h
      refine PI.imp (pi_range1 (G.gl h2) (G.xn _ (by simpa using h1)) (pa_cons (soundE a G a' ha) pa_nil (star_ok ha [] X.env)) (star_ok ha [] X.env)) fun σ H R q => ?_
      obtain ⟨ρ, M, E, Qd, R, t, k, x⟩ := q
      simp only [evI] at t
      refine ⟨ρ, M, E, _, R, t, fun d M1 v H1 e1 R1 r1 t1 => ?_, x⟩
      cases d <;> try (exact t1.elim)
      cases r1
      exact ⟨_, rfl, t1.1.1, t1.1.2, k _ _ _ _ _ e1 R1 walkR_rng t1.2⟩
  | .rng2 a b, X, T, W, G, tg, e, h => by
    match e, h with
    | .Call (.Name f p) [a', b'] [] pos, h =>
      simp only [chkI, Bool.and_eq_true, decide_eq_true_eq] at h
      obtain ⟨⟨⟨⟨rfl, h1⟩, h2⟩, ha⟩, hb⟩ := h
      refine PI.imp (pi_range2 (G.gl h2) (G.xn _ (by simpa using h1)) (pa_cons (soundE a G a' ha) (pa_cons (soundE b G b' hb) pa_nil (star_ok hb [] X.env)) (star_ok ha [b'] X.env)) (by rw [star_ok ha [b'] X.env, star_ok hb [] X.env]; rfl) (star_ok hb [] X.env)) fun σ H R q => ?_
      obtain ⟨ρ, M, E, Qd, R, t, k, x⟩ := q
      simp only [evI] at t
      refine ⟨ρ, M, E, _, R, t, fun d M1 v H1 e1 R1 r1 t1 => ⟨ρ, M1, E, _, R1, t1, fun d2 M2 v2 H2 e2 R2 r2 t2 => ?_, fun y M' c d H' e' => x y M' c d H' (e1.trans e')⟩, x⟩
      cases d <;> cases d2 <;> try (exact t2.elim)
      cases r1; cases r2
      exact ⟨_, _, rfl, ⟨t2.1.1, t2.1.2, t2.2.1.1, t2.2.1.2⟩, k _ _ _ _ _ (e1.trans e2) R2 walkR_rng t2.2.2⟩
  | .rng3 a b c, X, T, W, G, tg, e, h => by
    match e, h with
    | .Call (.Name f p) [a', b', c'] [] pos, h =>
      simp only [chkI, Bool.and_eq_true, decide_eq_true_eq] at h
      obtain ⟨⟨⟨⟨⟨rfl, h1⟩, h2⟩, ha⟩, hb⟩, hc⟩ := h
      refine PI.imp (pi_range3 (G.gl h2) (G.xn _ (by simpa using h1)) (pa_cons (soundE a G a' ha) (pa_cons (soundE b G b' hb) (pa_cons (soundE c G c' hc) pa_nil (star_ok hc [] X.env)) (star_ok hb [c'] X.env)) (star_ok ha [b', c'] X.env)) (star_ok ha [b', c'] X.env)
        (by rw [star_ok hb [c'] X.env, star_ok hc [] X.env]; rfl)) fun σ H R q => ?_
      obtain ⟨ρ, M, E, Qd, R, t, k, x⟩ := q
      simp only [evI] at t
      refine ⟨ρ, M, E, _, R, t, fun d M1 v H1 e1 R1 r1 t1 => ⟨ρ, M1, E, _, R1, t1, fun d2 M2 v2 H2 e2 R2 r2 t2 => ⟨ρ, M2, E, _, R2, t2, fun d3 M3 v3 H3 e3 R3 r3 t3 => ?_, fun y M' c d H' e' => x y M' c d H' ((e1.trans e2).trans e')⟩, fun y M' c d H' e' => x y M' c d H' (e1.trans e')⟩, x⟩
      cases d <;> cases d2 <;> cases d3 <;> try (exact t3.elim)
      cases r1; cases r2; cases r3
      obtain ⟨n, hn, t3⟩ := t3
      exact ⟨_, _, _, n, rfl, hn, k _ _ _ _ _ ((e1.trans e2).trans e3) R3 walkR_rngC t3⟩
  | .enm a, X, T, W, G, tg, e, h => by
    match e, h with
    | .Call (.Name f p) [a'] [] pos, h =>
      simp only [chkI, Bool.and_eq_true, decide_eq_true_eq] at h
      obtain ⟨⟨⟨⟨hp, rfl⟩, h1⟩, h2⟩, ha⟩ := h
      cases tg <;> first | (simp [isTup] at hp; done) | skip
      refine PI.imp (pi_enumK (G.gl h2) (G.xn _ (by simpa using h1)) (pa_cons (soundE a G a' ha) pa_nil (star_ok ha [] X.env)) (star_ok ha [] X.env)) fun σ H R q => ?_
      obtain ⟨ρ, M, E, Qd, R, t, k, x⟩ := q
      simp only [evI] at t
      refine ⟨ρ, M, E, _, R, t, fun d M1 v H1 e1 R1 r1 t1 => ?_, x⟩
      obtain ⟨kk, p1, vs, ds, rfl, sq, rs, t2, g⟩ := seqI_K R1.mem r1 t1
      exact ⟨kk, p1, vs, rfl, sq, k _ _ _ _ _ e1 R1 (walkR_enmK g) t2⟩
  | .zip a b, X, T, W, G, tg, e, h => by
    match e, h with
    | .Call (.Name f p) [a', b'] [] pos, h =>
      simp only [chkI, Bool.and_eq_true, decide_eq_true_eq] at h
      obtain ⟨⟨⟨⟨⟨hp, rfl⟩, h1⟩, h2⟩, ha⟩, hb⟩ := h
      cases tg <;> first | (simp [isTup] at hp; done) | skip
      refine PI.imp (pi_zipK (G.gl h2) (G.xn _ (by simpa using h1)) (pa_cons (soundE a G a' ha) (pa_cons (soundE b G b' hb) pa_nil (star_ok hb [] X.env)) (star_ok ha [b'] X.env)) (star_ok ha [b'] X.env) (by rw [star_ok hb [] X.env]; rfl)) fun σ H R q => ?_
      obtain ⟨ρ, M, E, Qd, R, t, k, x⟩ := q
      simp only [evI] at t
      refine ⟨ρ, M, E, _, R, t, fun d M1 v H1 e1 R1 r1 t1 => ⟨ρ, M1, E, _, R1, t1, fun d2 M2 v2 H2 e2 R2 r2 t2 => ?_, fun y M' c d H' e' => x y M' c d H' (e1.trans e')⟩, x⟩
      obtain ⟨k1, p1, vs, ds, rfl, sq, rs, t3, g⟩ := seqI_K R2.mem (r1.mono e2) t2
      obtain ⟨k2, p2, ws, es, rfl, sq2, rs2, t4, g2⟩ := seqI_K R2.mem r2 t3
      exact ⟨k1, k2, p1, p2, vs, ws, rfl, sq, sq2, k _ _ _ _ _ (e1.trans e2) R2 (walkR_zipK g g2) t4⟩
end
end
end DL
namespace DL
open PySem PySem.Spec L2

/-! ### statements -/
mutual
inductive Sm where
  | set (i : Nat) (e : Ex) | setLc (i : Nat) (own : List Nat) (tg : Tg) (it : Si) (c : Teo) (e : Ex)
  | setT (tg : Tg) (e : Ex) | par (i j : Nat) (a b : Ex) | setS (a b e : Ex) | setF (a : Ex) (f : Str) (e : Ex)
  | set2 (tg : Tg) (i : Nat) (e : Ex)
  | ret (e : Ex) | retN | expr (e : Ex)
  | ifs (c : Te) (a b : Sms) | whl (c : Te) (b : Sms) | fo (tg : Tg) (it : Si) (b : Sms)
  | pass | brk | cont | never
  | raise (g : Nat) (es : Exs) | raise0 (g : Nat) | trA (b : Sms) (i g : Nat) (s : Sms) | trO (b : Sms) (g : Nat) (s : Sms)
inductive Sms where
  | nil
  | cons (s : Sm) (ss : Sms)
end
structure KE where
  nx : DEnv → Mm → Prop
  rt : D → Mm → Prop
  bk : DEnv → Mm → Prop := fun _ _ => False
  ct : DEnv → Mm → Prop := fun _ _ => False
  ex : Xd → DEnv → Mm → Prop := fun _ _ _ => False
abbrev TSd := DEnv → Mm → KE → Prop
def setSD (x y v : D) (M : Mm) (Q : Mm → Prop) : Prop := match x, y with
  | .ref a, .int i => ∃ xs j, M a = some (.lst xs) ∧ ixN xs.length i = some j ∧ Q (M.put a (.lst (xs.set j v)))
  | _, _ => False
def putD (f : Str) (d : D) : List (Str × D) → List (Str × D)
  | [] => [(f, d)]
  | (g, e) :: r => if g = f then (g, d) :: r else (g, e) :: putD f d r
def setFD (Γ : Gm) (x : D) (f : Str) (v : D) (M : Mm) (Q : Mm → Prop) : Prop := match x with
  | .ref a => ∃ C fs, M a = some (.ins C fs) ∧ Γ.fld C f ∧ fs.length < 50 ∧ Q (M.put a (.ins C (putD f v fs)))
  | _ => False
/-- an error made -/
def raiseD (Γ : Gm) (g : Nat) (ds : List D) (M : Mm) (Q : Xd → Mm → Prop) : Prop := match Γ.gv g with
  | .err C fs tx => fs ≠ [] ∧ ds.length = fs.length ∧ (∀ i ∈ tx, ∃ d, ds[i]? = some d ∧ TxtD d) ∧ ∀ dd, M dd = none → Q ⟨C, some dd⟩ (M.put dd (.exd (fs.zip ds)))
  | _ => False
def isErr : GV → Prop
  | .err _ _ _ => True
  | _ => False
def raise0D (Γ : Gm) (g : Nat) (M : Mm) (Q : Xd → Mm → Prop) : Prop := match Γ.gv g with
  | .err C [] [] => Q ⟨C, none⟩ M
  | _ => False
def whlD (c : TDt) (b : TSd) (K : KE) : Nat → DEnv → Mm → Prop
  | 0, _, _ => False
  | n + 1, ρ, M => c ρ M (fun x => K.ex x ρ) fun k M1 => if k = true then b ρ M1 { K with nx := whlD c b K n, ct := whlD c b K n, bk := K.nx } else K.nx ρ M1
def forD (G : Mm → Prop) (tg : Tg) (b : TSd) (K : KE) : List D → DEnv → Mm → Prop
  | [], ρ, M => G M ∧ K.nx ρ M
  | d :: ds, ρ, M => G M ∧ tgD tg d ρ fun ρ2 => b ρ2 M { K with nx := forD G tg b K ds, ct := forD G tg b K ds, bk := K.nx }
mutual
def evS (Γ : Gm) : Sm → TSd
  | .set i e => fun ρ M K => evE Γ e ρ M (fun x => K.ex x ρ) fun d M1 => K.nx (ρ.set i (some d)) M1
  | .setLc i own tg it c e => fun ρ M K => evE Γ (.lc own tg it c e) ρ M (fun x => K.ex x ρ) fun d M1 => K.nx (ρ.set i (some d)) M1
  | .setT tg e => fun ρ M K => evE Γ e ρ M (fun x => K.ex x ρ) fun d M1 => tgD tg d ρ fun ρ2 => K.nx ρ2 M1
  | .par i j a b => fun ρ M K => evE Γ a ρ M (fun x => K.ex x ρ) fun d M1 => evE Γ b ρ M1 (fun x => K.ex x ρ) fun e M2 => K.nx ((ρ.set i (some d)).set j (some e)) M2
  | .setS a b e => fun ρ M K => evE Γ e ρ M (fun x => K.ex x ρ) fun v M1 => evE Γ a ρ M1 (fun x => K.ex x ρ) fun x M2 => evE Γ b ρ M2 (fun x => K.ex x ρ) fun y M3 => setSD x y v M3 fun M4 => K.nx ρ M4
  | .setF a f e => fun ρ M K => evE Γ e ρ M (fun x => K.ex x ρ) fun v M1 => evE Γ a ρ M1 (fun x => K.ex x ρ) fun x M2 => setFD Γ x f v M2 fun M3 => K.nx ρ M3
  | .set2 tg i e => fun ρ M K => evE Γ e ρ M (fun x => K.ex x ρ) fun d M1 => tgD tg d ρ fun ρ2 => K.nx (ρ2.set i (some d)) M1
  | .ret e => fun ρ M K => evE Γ e ρ M (fun x => K.ex x ρ) K.rt
  | .retN => fun _ M K => K.rt .non M
  | .expr e => fun ρ M K => evE Γ e ρ M (fun x => K.ex x ρ) fun _ M1 => K.nx ρ M1
  | .ifs c a b => fun ρ M K => evT Γ c ρ M (fun x => K.ex x ρ) fun k M1 => if k = true then evSs Γ a ρ M1 K else evSs Γ b ρ M1 K
  | .whl c b => fun ρ M K => ∃ n, whlD (evT Γ c) (evSs Γ b) K n ρ M
  | .fo tg it b => fun ρ M K => evI Γ it ρ M (fun x => K.ex x ρ) fun items G M1 => forD G tg (evSs Γ b) K items ρ M1
  | .pass => fun ρ M K => K.nx ρ M
  | .brk => fun ρ M K => K.bk ρ M
  | .cont => fun ρ M K => K.ct ρ M
  | .never => fun _ _ _ => False
  | .raise g es => fun ρ M K => isErr (Γ.gv g) ∧ evEs Γ es ρ M (fun x => K.ex x ρ) fun ds M1 => raiseD Γ g ds M1 fun x M2 => K.ex x ρ M2
  | .raise0 g => fun ρ M K => raise0D Γ g M fun x M2 => K.ex x ρ M2
  | .trA b i g s => fun ρ M K => evSs Γ b ρ M { K with ex := fun x ρ1 M1 => ∃ C' k, (Γ.gv g).clsOf = some C' ∧ Γ.sub x.C C' = some k ∧
      (k = true → ∀ a, M1 a = none → evSs { Γ with exn := some (a, x.C, x.d) } s (ρ1.set i (some (.ref a))) M1
        { nx := fun ρ2 M2 => K.nx (ρ2.set i none) M2, rt := K.rt, bk := fun ρ2 M2 => K.bk (ρ2.set i none) M2, ct := fun ρ2 M2 => K.ct (ρ2.set i none) M2 }) ∧
      (k = false → K.ex x ρ1 M1) }
  | .trO b g s => fun ρ M K => evSs Γ b ρ M { K with ex := fun x ρ1 M1 => ∃ C' k, (Γ.gv g).clsOf = some C' ∧ Γ.sub x.C C' = some k ∧
      (k = true → ∀ a, M1 a = none → evSs { Γ with exn := some (a, x.C, x.d) } s ρ1 M1 { nx := K.nx, rt := K.rt, bk := K.bk, ct := K.ct }) ∧
      (k = false → K.ex x ρ1 M1) }
def evSs (Γ : Gm) : Sms → TSd
  | .nil => fun ρ M K => K.nx ρ M
  | .cons s ss => fun ρ M K => evS Γ s ρ M { K with nx := fun ρ1 M1 => evSs Γ ss ρ1 M1 K }
end
def isLc : Expr → Bool
  | .ListComp _ _ _ _ => true
  | .SetComp _ _ _ _ => true
  | .DictComp _ _ _ _ _ => true
  | _ => false
def noSwap (t e : Expr) : Bool := match t, e with
  | .Tuple ts _ _, .Tuple es _ _ => !(ts.length == 2 || ts.length == 3) || es.all (foldedForSure 8)
  | .List _ _, _ => false
  | _, _ => true
def Tb.sui (T : Tb) : Tb := { T with calm := false }
mutual
def chkS (T : Tb) : Sm → Stmt → Bool
  | .set i e, .Assign [.Name x _] v _ => decide (T.N[i]? = some x) && T.loc x && !isLc v && chkE T e v
  | .setLc i own tg it c e, .Assign [.Name x p] (.ListComp e' gs scope pos) _ => decide (T.N[i]? = some x) && decide (T.sc.names.lookup x = some .local) && (p.line == pos.line) && !(scope.names.any fun (n, k) => n == x && (k == .local || k == .cell)) && chkE T (.lc own tg it c e) (.ListComp e' gs scope pos)
  | .setT tg e, .Assign [t] v _ => isTup t && noSwap t v && !isLc v && chkTg T tg t && chkE T e v
  | .par i j a b, .Assign [.Tuple [.Name x px, .Name y py] _ _] (.Tuple [a', b'] _ _) _ => decide (T.N[i]? = some x) && decide (T.N[j]? = some y) && decide (i ≠ j) && decide (T.sc.names.lookup x = some .local) && decide (T.sc.names.lookup y = some .local) &&
      (px.line == py.line) && decide (x ≠ y) && !([a', b'].all (foldedForSure 8)) && !([a', b'].all (constantsAlone 8)) && T.calm && chkE T a a' && chkE T b b'
  | .setS a b e, .Assign [.Subscript a' b' _] v _ => !isLc v && chkE T a a' && chkE T b b' && chkE T e v
  | .setF a f e, .Assign [.Attribute a' f' _] v _ => decide (f = f') && !isLc v && chkE T a a' && chkE T e v
  | .set2 tg i e, .Assign [t, .Name x _] v _ => isTup t && chkTg T tg t && decide (T.N[i]? = some x) && T.loc x && chkE T e v
  | .ret e, .Return (some v) _ => chkE T e v
  | .retN, .Return none _ => true
  | .expr e, .Expr v _ => !isLc v && chkE T e v
  | .ifs c a b, .If c' a' b' _ => chkT T c c' && chkSs T a a' && chkSs T b b'
  | .whl c b, .While c' b' [] _ => chkT T c c' && chkSs T b b'
  | .fo tg it b, .For t it' b' [] _ => T.calm && chkTg T tg t && chkI T (isTup t) it it' && chkSs T b b'
  | .pass, .Pass _ => true
  | .pass, .Expr (.Constant (.str _) _ _) _ => true
  | .brk, .Break _ => true
  | .cont, .Continue _ => true
  | .never, _ => true
  | .raise g es, .Raise (some (.Call (.Name x _) vs [] _)) none _ => T.calm && decide (T.gn[g]? = some (x, none)) && T.glo x && plainN x && !vs.isEmpty && chkEs T es vs
  | .raise0 g, .Raise (some (.Call (.Name x _) [] [] _)) none _ => T.calm && decide (T.gn[g]? = some (x, none)) && T.glo x && plainN x
  | .trA b i g s, .Try b' [.ExceptHandler (some (.Name x _)) (some n) s' _] [] [] _ => T.calm && decide (T.gn[g]? = some (x, none)) && T.glo x && plainN x && decide (T.N[i]? = some n) && decide (T.sc.names.lookup n = some .local) && !s'.isEmpty && chkSs T b b' && chkSs T.sui s s'
  | .trO b g s, .Try b' [.ExceptHandler (some (.Name x _)) none s' _] [] [] _ => T.calm && decide (T.gn[g]? = some (x, none)) && T.glo x && plainN x && !s'.isEmpty && chkSs T b b' && chkSs T.sui s s'
  | _, _ => false
def chkSs (T : Tb) : Sms → List Stmt → Bool
  | .nil, [] => true
  | .cons s ss, v :: vs => chkS T s v && chkSs T ss vs
  | _, _ => false
end
def liftSt (K : PySem.W.Frag) (W : WX) (td : TSd) : TS := fun D σ H => ∃ ρ M Kd, Rel K ρ M σ H ∧ td ρ M Kd ∧
  (∀ ρ' M' σ' H', TX H H' → Rel K ρ' M' σ' H' → Kd.nx ρ' M' → D.nx σ' H') ∧
  (∀ d M' v H', TX H H' → RelM K M' H' → Rep K H' d v → Kd.rt d M' → D.rt v H') ∧
  (∀ ρ' M' σ' H', TX H H' → Rel K ρ' M' σ' H' → Kd.bk ρ' M' → D.bk σ' H') ∧
  (∀ ρ' M' σ' H', TX H H' → Rel K ρ' M' σ' H' → Kd.ct ρ' M' → D.ct σ' H') ∧
  (∀ x ρ' M' σ' cls dd H', TX H H' → Rel K ρ' M' σ' H' → RelX K H' x cls dd → Kd.ex x ρ' M' → W cls dd σ' H')
theorem PS.imp {X : Cx} {e : Stmt} {t t' : TS} (h : PS X e t) (i : ∀ D σ H, t' D σ H → t D σ H) : PS X e t' := ⟨fun pins s σ H D I q => h.run pins s σ H D I (i D σ H q)⟩
theorem PSs.imp {X : Cx} {e : List Stmt} {t t' : TS} (h : PSs X e t) (i : ∀ D σ H, t' D σ H → t D σ H) : PSs X e t' := ⟨fun pins s σ H D I q => h.run pins s σ H D I (i D σ H q)⟩
theorem lookup_putD (f g : Str) (d : D) : ∀ fs : List (Str × D), (putD f d fs).lookup g = if g = f then some d else fs.lookup g
  | [] => by
    unfold putD
    by_cases h : g = f
    · subst h; simp [List.lookup]
    · simp [List.lookup, h, beq_eq_false_iff_ne.mpr h]
  | (h, e) :: r => by
    unfold putD
    by_cases q : h = f
    · subst q
      rw [if_pos rfl]
      by_cases z : g = h
      · subst z; simp [List.lookup]
      · simp [List.lookup, beq_eq_false_iff_ne.mpr z, z]
    · rw [if_neg q]
      by_cases z : g = h
      · subst z; simp [List.lookup, q]
      · simp only [List.lookup, beq_eq_false_iff_ne.mpr z]
        exact lookup_putD f g d r
theorem swaps_no {e : Expr} (h : isLc e = false) (t : Option Expr) (l : Nat) (env : PySem.Env) : swapsWith e t l env = pure false := by
  cases e <;> first | rfl | (simp [isLc] at h)
theorem swapped_no {t e : Expr} (h : noSwap t e = true) (env : PySem.Env) : swappedStores [t] e env = pure none := by
  cases t with
  | Tuple ts k p =>
    cases e with
    | Tuple vs k2 p2 =>
      simp only [noSwap, Bool.or_eq_true, Bool.not_eq_true', Bool.or_eq_false_iff] at h
      rcases h with h | h
      · unfold swappedStores
        simp only [h.1, h.2, Bool.or_self, Bool.not_false, Bool.true_or, if_true]
      · unfold swappedStores
        simp only [h, if_true]
        split
        · rfl
        · split
          · rfl
          · split <;> rfl
    | _ => rfl
  | List ts p => simp [noSwap] at h
  | _ => cases e <;> rfl
structure GoodS (CX : CXT) (X : Cx) (T : Tb) (Γ : Gm) (W : WX) (lv : Nat) : Prop extends Good CX X T Γ W lv where
  own : PassesOwn (model X.prog X.w) X.A X.env X.xe
  tk : Takes X W
  hcx : CX = L2.CX X.prog X.w
  stk : X.stack = X.env :: X.outer
  frm : X.env.frame = some X.env.locals
end DL
namespace DL
open PySem PySem.Spec L2

/-! ### errors made and raised, and caught -/
theorem lookup_zip {α : Type} {x : Str} {d : α} : ∀ {fs : List Str} {ds : List α}, (fs.zip ds).lookup x = some d → ∃ i : Nat, fs[i]? = some x ∧ ds[i]? = some d
  | [], _, h => by simp [List.lookup] at h
  | _ :: _, [], h => by simp [List.lookup] at h
  | f :: fs, e :: ds, h => by
    by_cases q : x = f
    · subst q
      simp [List.lookup] at h
      subst h
      exact ⟨0, rfl, rfl⟩
    · simp only [List.zip_cons_cons, List.lookup, beq_eq_false_iff_ne.mpr q] at h
      obtain ⟨i, a, b⟩ := lookup_zip h
      exact ⟨i + 1, by simpa using a, by simpa using b⟩
theorem look_app {α : Type} (x : Str) : ∀ (l r : List (Str × α)), (l ++ r).lookup x = match l.lookup x with | some v => some v | none => r.lookup x
  | [], r => rfl
  | (y, a) :: l, r => by
    by_cases h : x = y
    · subst h; simp [List.lookup]
    · simp only [List.cons_append, List.lookup, beq_eq_false_iff_ne.mpr h]
      exact look_app x l r
theorem look_none {α : Type} (x : Str) : ∀ (l : List (Str × α)), (∀ p ∈ l, p.1 ≠ x) → l.lookup x = none
  | [], _ => rfl
  | (y, a) :: l, h => by
    have e := h (y, a) List.mem_cons_self
    simp only [List.lookup, beq_eq_false_iff_ne.mpr (Ne.symm e)]
    exact look_none x l fun p hp => h p (List.mem_cons_of_mem _ hp)
theorem zip_rev {α : Type} {x : Str} {u : α} : ∀ {ps : List Str} {us : List α} {i : Nat}, ps.Nodup → ps[i]? = some x → us[i]? = some u → (ps.zip us).reverse.lookup x = some u
  | [], _, _, _, h, _ => by simp at h
  | _ :: _, [], _, _, _, h => by simp at h
  | p :: ps, v :: us, 0, nd, h1, h2 => by
    simp at h1 h2
    subst h1 h2
    rw [List.zip_cons_cons, List.reverse_cons, look_app, look_none]
    · simp [List.lookup]
    · intro q hq e
      have := (List.of_mem_zip (List.mem_reverse.mp hq)).1
      rw [e] at this
      exact (List.nodup_cons.mp nd).1 this
  | p :: ps, v :: us, i + 1, nd, h1, h2 => by
    rw [List.zip_cons_cons, List.reverse_cons, look_app, zip_rev (List.nodup_cons.mp nd).2 (by simpa using h1) (by simpa using h2)]
theorem RelM.newX {K : PySem.W.Frag} {M : Mm} {H : Hp} {p : Addr} {vfs : List (Str × V)} {fs : List (Str × D)} (r : RelM K M H) (h : H p = none) (q : ∀ f d, fs.lookup f = some d → ∃ v, vfs.lookup f = some v ∧ Rep K H d v) :
    RelM K (M.put p (.exd fs)) (upd H p (.xd vfs)) := fun a o e => by
  by_cases ha : a = p
  · subst ha; rw [Mm.put_same] at e; cases e
    exact ⟨vfs, upd_same, fun f d hf => by obtain ⟨v, h1, h2⟩ := q f d hf; exact ⟨v, h1, h2.mono (TX.new h)⟩⟩
  · rw [Mm.put_ne ha] at e; exact r.new h a o e
theorem TxtD.to {K : PySem.W.Frag} {H : Hp} {d : D} {v : V} (r : Rep K H d v) (h : TxtD d) : TxtV v := by
  cases d <;> first | exact h.elim | (cases r; exact h)
section
variable {CX : CXT} {X : Cx} {T : Tb} {Γ : Gm} {W : WX} {lv : Nat}
theorem raise_ok (G : GoodS CX X T Γ W lv) {g : Nat} {x : Str} {e : Expr} {es : List Expr} {m : Exs} {p pos pos2 : Pos} (hcm : T.calm = true) (hg : T.gn[g]? = some (x, none)) (hgl : T.glo x = true) (hp : plainN x = true) (hc : chkEs T m (e :: es) = true) :
    PS X (.Raise (some (.Call (.Name x p) (e :: es) [] pos)) none pos2) (liftSt X.K W fun ρ M K => isErr (Γ.gv g) ∧ evEs Γ m ρ M (fun x => K.ex x ρ) fun ds M1 => raiseD Γ g ds M1 fun x M2 => K.ex x ρ M2) := by
  obtain ⟨p1, _, _⟩ := plainN_ok hp
  have go := G.glob g x none hg
  have A := soundEs m G.toGood (e :: es) hc
  have hst : starEach (e :: es) X.env = (false, eval e X.env) :: starEach es X.env := by
    cases m with
    | nil => simp [chkEs] at hc
    | cons m ms => simp only [chkEs, Bool.and_eq_true] at hc; exact star_ok hc.1 es X.env
  have hpl : (backTo pos (starEach es X.env)).any (·.1) = false := by
    cases m with
    | nil => simp [chkEs] at hc
    | cons m ms => simp only [chkEs, Bool.and_eq_true] at hc; rw [back_any]; exact starAll_ok hc.2 X.env
  cases gv : Γ.gv g with
  | fn n sp dfl => rw [gv] at go; exact go.elim
  | val d => exact PS.imp ps_never fun D σ H ⟨ρ, M, Kd, R, ⟨t, _⟩, _⟩ => t
  | cls C => exact PS.imp ps_never fun D σ H ⟨ρ, M, Kd, R, ⟨t, _⟩, _⟩ => t
  | cla C i => exact PS.imp ps_never fun D σ H ⟨ρ, M, Kd, R, ⟨t, _⟩, _⟩ => t
  | err C fs tx =>
    rw [gv] at go
    obtain ⟨hm, O⟩ := go
    obtain ⟨k, fI, fd, ps, hk, iC, tI, F1, bI⟩ := O.made
    refine PS.imp (ps_raise (G.calm hcm) G.tk (pmk_oex O.oex iC tI F1 ((G.room hcm).mono hk) bI .nil (fun pins σ H s e s' I c => absurd c (G.cx0 _ _ _ _ _)) (G.gl hgl) hm A p1 hst hpl)) fun D σ H q => ?_
    obtain ⟨ρ, M, Kd, R, ⟨_, t⟩, kn, kr, kb, kc, kx⟩ := q
    refine ⟨ρ, M, _, _, R, t, fun ds M1 vs H1 e1 R1 r1 t1 => ?_, fun x M' c dd H' e R' rx q' => kx x ρ M' σ c dd H' e R' rx q'⟩
    unfold raiseD at t1
    rw [gv] at t1
    obtain ⟨hne, hl, htx, t1⟩ := t1
    have hlen := r1.length
    refine ⟨by have := O.few; omega, fun a ha => ⟨a, vs, by rw [List.append_nil], by omega, upd_same, fun i hi => ?_, .inr ⟨hne, fun dx H' hdx hda ea ed hoth => ⟨rfl, dx, _, ea, ed, ?_, ?_⟩⟩⟩⟩
    · obtain ⟨d, hd, ht⟩ := htx i hi
      obtain ⟨v, hv, rv⟩ := r1.get hd
      exact ⟨v, hv, ht.to rv⟩
    · rw [← hdx, upd_ne hda]
    · have hd1 : H1 dx = none := by rw [← hdx, upd_ne hda]
      have eH : upd (L2.del H' a) dx (.xd (fs.zip vs).reverse) = upd H1 dx (.xd (fs.zip vs).reverse) := by
        funext b
        by_cases hb : b = dx
        · subst hb; rw [upd_same, upd_same]
        · rw [upd_ne hb, upd_ne hb]
          by_cases hba : b = a
          · subst hba; rw [L2.del_same, ha]
          · rw [L2.del_ne hba, hoth b hba hb, upd_ne hba]
      rw [eH]
      refine kx ⟨C, some dx⟩ ρ _ σ _ _ _ (e1.trans (TX.new hd1)) ⟨R1.env.mono (TX.new hd1), R1.mem.newX hd1 fun f d hf => ?_⟩ ⟨rfl, rfl⟩ (t1 dx (R1.mem.free hd1))
      obtain ⟨i, h1, h2⟩ := lookup_zip hf
      obtain ⟨v, hv, rv⟩ := r1.get h2
      exact ⟨v, zip_rev O.nd h1 hv, rv⟩
/-- an error without fields: what is left when it is made -/
theorem mk_bare {pins : List (Addr × Obj)} {σ : St} {H1 : Hp} {Q : XK} {hp hp2 h2 : Heap} {g1 g2 : Array GenState} {d1 d2 : Drawn} {t1 t2 : Nat} {os1 os2 : OsState} {a C : Addr} (r : Raises X (.ref C)) (I1 : Inv X pins σ H1 ⟨hp, g1, d1, t1, os1⟩)
    (ha : hp.objs.size ≤ a) (k : ∀ b o, hp.get? b = some o → hp2.get? b = some o) (un : Un (frs X.stack) [] (upd H1 a (exo a C none)) (upd H1 a (exo a C none)) hp2 h2) (hok : HOk X.prog X.w (upd H1 a (exo a C none)) h2) (ho : os2 = os1) (hb : PyProof.Rows.AllBare g2)
    (q : Q (.ref C) none H1) : MkP X pins σ Q (.ref a) ⟨h2, g2, d2, t2, os2⟩ := by
  obtain ⟨t0, hoe⟩ := exo_at hok (e := a) upd_same
  have hn : H1 a = none := I1.hok.fresh ha
  obtain ⟨G, l1, l2⟩ := restrict h2 fun b => decide (b ≠ a)
  have gk : ∀ b, b ≠ a → G.get? b = h2.get? b := fun b z => l1 b (decide_eq_true z)
  have ge : G.get? a = none := l2 a (by simp)
  have ne : ∀ {b : Addr} {o : Obj}, hp.get? b = some o → b ≠ a := fun z => Nat.ne_of_lt (Nat.lt_of_lt_of_le (Heap.lt_size z) ha)
  have up : ∀ {b : Addr} {v : Option HO}, b ≠ a → H1 b = v → upd H1 a (exo a C none) b = v := fun z n => by rw [upd_ne z, n]
  have U : Un (frs X.stack) [] H1 H1 hp G := {
    keep := fun b o z n f x => (gk b (ne z)).trans (un.keep b o (k b o z) (up (ne z) n) f x)
    slot := fun b o z n f x => by rw [gk b (ne z)]; exact un.slot b o (k b o z) (up (ne z) n) f x
    free := fun b o z n x => n
    there := fun b o z x => by rw [gk b (ne z)]; exact un.there b o (k b o z) x
    tups := fun b xs z => z
    frzs := fun b o v z => z
    tbls := fun b ps z => ⟨#[], by rw [z]; simp⟩ }
  have hok3 : HOk X.prog X.w H1 G := fun b o z => by
    have hba : b ≠ a := fun e => by rw [e, hn] at z; cases z
    refine (hok b o (up hba z)).stay (fun c v hc y => ?_) (fun c hc => ?_) (fun c xs hc => ?_)
    · refine (gk c ?_).trans y
      rcases hc with hc | hc
      · rw [hc]; exact hba
      · exact at_ne upd_same hc exo_own
    · rwa [upd_ne (at_ne upd_same hc exo_own)] at hc
    · rwa [upd_ne (at_ne upd_same hc exo_tup)] at hc
  have J : Inv X pins σ H1 ⟨G, g2, d2, t2, os2⟩ := I1.call' (ch := []) ho U hok3 hb (fun b z => absurd z (by simp))
  refine ⟨a, _, _, ⟨G, g2, d2, t2, os2⟩, _, .ref C, none, rfl, J, fun b o z => ?_, ge, hoe, ⟨rfl, rfl⟩, rfl, rfl, hn, rfl, hb, r, q⟩
  by_cases hba : b = a
  · rw [hba, show (⟨G, g2, d2, t2, os2⟩ : Shared).heap.get? a = none from ge] at z; cases z
  · exact (gk b hba).symm.trans z
theorem pmk_bare {x : Str} {C fI : Addr} {k : Nat} {fd : FuncData} {ps : List Str} {p pos : Pos} (T : OexC X.K C) (iC : PySem.W.findIn X.K (.ref C) "__init__" = some (some (.ref fI))) (tI : PySem.W.typeIn X.K (.ref fI) = some (.type "function"))
    (F1 : FnOk X.prog X.w X.K X.mg X.base CX k fI fd ps (spInit C [] [])) (hr : Room (k + 1) X.A) (bi : Binds X.K fd ps []) (hx : Passes CX X (fun _ _ _ => False)) (hg : Gl X x) (hm : X.mg x = some (.ref C)) (hdb : (x == ("__debug__" : Str)) = false) :
    PMk X (.Call (.Name x p) [] [] pos) (fun _ H Q => Q (.ref C) none H) := by
  intro pins s σ H Q I h
  obtain ⟨nm, q, N, bs, bm, sn, sub, ab, col, dd, k0, k1, k2, k3, k5, hC, hbm⟩ := T.cls
  refine wpAny_Call_Name_kw (ld_glob I hg hm ?_ hdb)
  refine PySem.W.callWith_K0 I.kIn T.kC ?_
  show wpAny _ _ (call (.ref C) []) _ _ _
  obtain ⟨hp, g, dr, tk, os⟩ := s
  have hsz : hp.objs.size ≤ hp.objs.size + 1 := Nat.le_succ _
  have kk : ∀ b o, hp.get? b = some o → ((hp.push (PySem.W.kdv_tup [])).push (PySem.HandSPX.excO C hp.objs.size)).get? b = some o := fun b o e => (Heap.get?_push_of_some _ (Heap.get?_push_of_some _ e))
  have hget : ((hp.push (PySem.W.kdv_tup [])).push (PySem.HandSPX.excO C hp.objs.size)).get? (hp.objs.size + 1) = some (PySem.HandSPX.excO C hp.objs.size) := by heap_get
  have I2 : Inv X pins σ (upd H (hp.objs.size + 1) (exo (hp.objs.size + 1) C none)) ⟨(hp.push (PySem.W.kdv_tup [])).push (PySem.HandSPX.excO C hp.objs.size), g, dr, tk, os⟩ :=
    I.laid (t' := tk) (a := hp.objs.size + 1) (o := exo (hp.objs.size + 1) C none) (h' := (hp.push (PySem.W.kdv_tup [])).push (PySem.HandSPX.excO C hp.objs.size)) kk hsz (exo_ok hget)
  have r2 : Vals [V.ref (hp.objs.size + 1)] [Value.ref (hp.objs.size + 1)] := .cons rfl .nil
  have hq : spInit C [] [] [V.ref (hp.objs.size + 1)] (upd H (hp.objs.size + 1) (exo (hp.objs.size + 1) C none)) (fun v H2 => v = V.non ∧ H2 = upd H (hp.objs.size + 1) (exo (hp.objs.size + 1) C none)) (fun _ _ _ => False) :=
    ⟨_, [], rfl, rfl, upd_same, fun i hi => (by cases hi), .inl ⟨rfl, rfl, rfl⟩⟩
  have hl : ([Value.ref (hp.objs.size + 1)] ++ []).length = ps.length := (F1.len _ _ _ _ hq)
  refine wpAny_call (PySem.HandSPX.call_own F.excBase_ValueError (fun Y => PySem.HandSPX.refsVE_contains Y bm hbm) (I.kIn _ _ hC) (PySem.W.looks_findIn I.kIn iC) (fun self => PySem.W.bind_fn I.kIn self tI) (Nat.zero_le _)
    (codeAny_mono (F1.run _ X.stack _ _ ⟨[Value.ref (hp.objs.size + 1)], []⟩ [Value.ref (hp.objs.size + 1)] _ _ (fun _ _ _ => False) (hr.make C [] []) (I2.env0.make C [] []) (bi _ [Value.ref (hp.objs.size + 1)] I2.kIn hl) r2 hq) fun r s' hq' => ?_))
  cases r with
  | error er => exact hx pins σ _ _ er s' I2 hq'
  | ok fl =>
    cases fl with
    | ret u =>
      obtain ⟨v, H2, os2, bare2, un2, hok2, rv, ev, eH⟩ := hq'
      subst ev eH
      obtain ⟨h2, g2, d2, t2, os'⟩ := s'
      exact ⟨rv, mk_bare (raises_own T.exC T.tyC) I hsz kk un2 hok2 os2 bare2 h⟩
    | next => exact False.elim hq'
    | brk => exact False.elim hq'
    | cont => exact False.elim hq'
theorem raise0_ok (G : GoodS CX X T Γ W lv) {g : Nat} {x : Str} {p pos pos2 : Pos} (hcm : T.calm = true) (hg : T.gn[g]? = some (x, none)) (hgl : T.glo x = true) (hp : plainN x = true) :
    PS X (.Raise (some (.Call (.Name x p) [] [] pos)) none pos2) (liftSt X.K W fun ρ M K => raise0D Γ g M fun x M2 => K.ex x ρ M2) := by
  obtain ⟨p1, _, _⟩ := plainN_ok hp
  have go := G.glob g x none hg
  cases gv : Γ.gv g with
  | fn n sp dfl => rw [gv] at go; exact go.elim
  | val d => exact PS.imp ps_never fun D σ H ⟨ρ, M, Kd, R, t, _⟩ => by unfold raise0D at t; rw [gv] at t; exact t
  | cls C => exact PS.imp ps_never fun D σ H ⟨ρ, M, Kd, R, t, _⟩ => by unfold raise0D at t; rw [gv] at t; exact t
  | cla C i => exact PS.imp ps_never fun D σ H ⟨ρ, M, Kd, R, t, _⟩ => by unfold raise0D at t; rw [gv] at t; exact t
  | err C fs tx =>
    rw [gv] at go
    obtain ⟨hm, O⟩ := go
    by_cases hz : fs = [] ∧ tx = []
    · obtain ⟨rfl, rfl⟩ := hz
      obtain ⟨k, fI, fd, ps, hk, iC, tI, F1, bI⟩ := O.made
      refine PS.imp (ps_raise (G.calm hcm) G.tk (pmk_bare O.oex iC tI F1 ((G.room hcm).mono hk) bI (fun pins σ H s e s' I c => absurd c (G.cx0 _ _ _ _ _)) (G.gl hgl) hm p1)) fun D σ H q => ?_
      obtain ⟨ρ, M, Kd, R, t, kn, kr, kb, kc, kx⟩ := q
      unfold raise0D at t
      rw [gv] at t
      exact kx ⟨C, none⟩ ρ M σ _ _ H (TX.refl H) R ⟨rfl, rfl⟩ t
    · refine PS.imp ps_never fun D σ H ⟨ρ, M, Kd, R, t, _⟩ => ?_
      unfold raise0D at t
      rw [gv] at t
      cases fs <;> cases tx <;> first | exact t | exact hz ⟨rfl, rfl⟩
theorem GlobOk.move {Y : Cx} (hP : Y.prog = X.prog) (hw : Y.w = X.w) (hK : Y.K = X.K) (hm : Y.mg = X.mg) (hb : Y.base = X.base) {x : Str} {o : Option (Nat × Nat)} {g : GV} (h : GlobOk CX X lv x o g) : GlobOk CX Y lv x o g := by
  cases o with
  | some nk => cases g <;> simp only [GlobOk, hP, hw, hK, hm, hb] at h ⊢ <;> exact h
  | none => cases g <;> simp only [GlobOk, hP, hw, hK, hm, hb] at h ⊢ <;> exact h
theorem GoodS.tr (G : GoodS CX X T Γ W lv) (hcm : T.calm = true) {pn : List (Addr × Obj)} {xe : Value → Shared → Prop} {W' : WX} (tk : Takes (X.tr pn xe) W') (own : PassesOwn (model X.prog X.w) X.A X.env xe) : GoodS CX (X.tr pn xe) T Γ W' lv where
  n := G.n
  nd := G.nd
  calm := G.calm
  sc := G.sc
  room := G.room
  hu := G.hu
  fn := G.fn
  xn := G.xn
  gcd := G.gcd
  glob := fun g x o h => (G.glob g x o h).move (Y := X.tr pn xe) rfl rfl rfl rfl rfl
  fld := G.fld
  kwc := G.kwc
  mt := G.mt
  pr := G.pr
  isi := G.isi
  nf := G.nf
  kwm := G.kwm
  xfl := G.xfl
  sub := G.sub
  exn := fun z => absurd z (by rw [hcm]; decide)
  pass := fun σ => by rw [G.hcx]; exact passAt (X := X.tr pn xe) tk σ
  cx0 := G.cx0
  own := own
  tk := tk
  hcx := G.hcx
  stk := G.stk
  frm := G.frm
theorem GoodS.suite (G : GoodS CX X T Γ W lv) {a C : Addr} {d : Option Addr} {oe : Obj} {pn : List (Addr × Obj)} (hz : Zc (.ref C) d oe) (hf : ∃ vs, oe.data = .fields vs) : GoodS CX (X.suite a ((a, oe) :: pn)) T.sui { Γ with exn := some (a, C, d) } W0 lv where
  n := G.n
  nd := G.nd
  calm := fun z => by cases z
  sc := G.sc
  room := fun z => by cases z
  hu := G.hu
  fn := G.fn
  xn := G.xn
  gcd := G.gcd
  glob := fun g x o h => (G.glob g x o h).move (Y := X.suite a ((a, oe) :: pn)) rfl rfl rfl rfl rfl
  fld := G.fld
  kwc := G.kwc
  mt := G.mt
  pr := G.pr
  isi := G.isi
  nf := G.nf
  kwm := G.kwm
  xfl := G.xfl
  sub := G.sub
  exn := fun _ a' C' d' e => by cases e; exact ⟨X, oe, pn, rfl, hz, hf⟩
  pass := fun σ pins H' s' e s'' _ c => absurd c (G.cx0 _ _ _ _ _)
  cx0 := G.cx0
  own := PassesOwn.never
  tk := takes0
  hcx := G.hcx
  stk := G.stk
  frm := G.frm
theorem RelE.clr {K : PySem.W.Frag} {H : Hp} {ρ : DEnv} {σ : St} (r : RelE K H ρ σ) (i : Nat) : RelE K H (ρ.set i none) (σ.set i none) := by
  refine ⟨by simp [r.len], fun j e hj => ?_⟩
  by_cases hi : i = j
  · subst hi
    by_cases hl : i < ρ.length
    · rw [List.getElem?_set_self hl] at hj; cases hj
    · rw [List.getElem?_eq_none (by simpa using hl)] at hj; cases hj
  · rw [List.getElem?_set_ne hi] at hj
    obtain ⟨w, a, b⟩ := r.at_ j e hj
    exact ⟨w, by rw [List.getElem?_set_ne hi]; exact a, b⟩
theorem names_of (G : GoodS CX X T Γ W lv) {g : Nat} {x : Str} (hg : T.gn[g]? = some (x, none)) (hgl : T.glo x = true) (hp : plainN x = true) : ∃ u, Names X x u ∧ ∀ C, (Γ.gv g).clsOf = some C → u = .ref C := by
  obtain ⟨p1, _, _⟩ := plainN_ok hp
  have go := G.glob g x none hg
  cases gv : Γ.gv g with
  | fn n sp dfl => rw [gv] at go; exact go.elim
  | val d => rw [gv] at go; obtain ⟨u, v, hu, _⟩ := go; exact ⟨u, ⟨G.gl hgl, p1, .inl hu⟩, fun C h => by cases h⟩
  | err C fs tx => rw [gv] at go; exact ⟨.ref C, ⟨G.gl hgl, p1, .inl go.1⟩, fun C h => by cases h; rfl⟩
  | cls C => rw [gv] at go; exact ⟨.ref C, ⟨G.gl hgl, p1, .inl go⟩, fun C h => by cases h; rfl⟩
  | cla C i => rw [gv] at go; exact ⟨.ref C, ⟨G.gl hgl, p1, .inl go.1⟩, fun C h => by cases h⟩
theorem inv_raise {T : Tb} {g : Nat} {m : Exs} {s : Stmt} (h : chkS T (.raise g m : Sm) s = true) : ∃ x p vs pos pos2, s = .Raise (some (.Call (.Name x p) vs [] pos)) none pos2 ∧ (T.calm && decide (T.gn[g]? = some (x, none)) && T.glo x && plainN x && !vs.isEmpty && chkEs T m vs) = true := by
  unfold chkS at h
  split at h <;> first
    | (cases h; done)
    | (contradiction)
    | (have q := ‹Sm.raise _ _ = Sm.raise _ _›; cases q; exact ⟨_, _, _, _, _, rfl, h⟩)
theorem inv_raise0 {T : Tb} {g : Nat} {s : Stmt} (h : chkS T (.raise0 g : Sm) s = true) : ∃ x p pos pos2, s = .Raise (some (.Call (.Name x p) [] [] pos)) none pos2 ∧ (T.calm && decide (T.gn[g]? = some (x, none)) && T.glo x && plainN x) = true := by
  unfold chkS at h
  split at h <;> first
    | (cases h; done)
    | (contradiction)
    | (have q := ‹Sm.raise0 _ = Sm.raise0 _›; cases q; exact ⟨_, _, _, _, rfl, h⟩)
theorem inv_trA {T : Tb} {b s2 : Sms} {i g : Nat} {s : Stmt} (h : chkS T (.trA b i g s2 : Sm) s = true) : ∃ b' x p n s' p2 pos, s = .Try b' [.ExceptHandler (some (.Name x p)) (some n) s' p2] [] [] pos ∧ (T.calm && decide (T.gn[g]? = some (x, none)) && T.glo x && plainN x && decide (T.N[i]? = some n) && decide (T.sc.names.lookup n = some .local) && !s'.isEmpty && chkSs T b b' && chkSs T.sui s2 s') = true := by
  unfold chkS at h
  split at h <;> first
    | (cases h; done)
    | (contradiction)
    | (have q := ‹Sm.trA _ _ _ _ = Sm.trA _ _ _ _›; cases q; exact ⟨_, _, _, _, _, _, _, rfl, h⟩)
theorem inv_trO {T : Tb} {b s2 : Sms} {g : Nat} {s : Stmt} (h : chkS T (.trO b g s2 : Sm) s = true) : ∃ b' x p s' p2 pos, s = .Try b' [.ExceptHandler (some (.Name x p)) none s' p2] [] [] pos ∧ (T.calm && decide (T.gn[g]? = some (x, none)) && T.glo x && plainN x && !s'.isEmpty && chkSs T b b' && chkSs T.sui s2 s') = true := by
  unfold chkS at h
  split at h <;> first
    | (cases h; done)
    | (contradiction)
    | (have q := ‹Sm.trO _ _ _ = Sm.trO _ _ _›; cases q; exact ⟨_, _, _, _, _, _, rfl, h⟩)
end
end DL
namespace DL
open PySem PySem.Spec L2
section
variable {CX : CXT} {Γ : Gm} {lv : Nat}
theorem inv_set {T : Tb} {i : Nat} {e : Ex} {s : Stmt} (h : chkS T (.set i e : Sm) s = true) : ∃ x p v pos, s = .Assign [.Name x p] v pos ∧ (decide (T.N[i]? = some x) && T.loc x && !isLc v && chkE T e v) = true := by
  unfold chkS at h
  split at h <;> first
    | (cases h; done)
    | (contradiction)
    | (have q := ‹Sm.set _ _ = Sm.set _ _›; cases q; exact ⟨_, _, _, _, rfl, h⟩)
theorem inv_setLc {T : Tb} {i : Nat} {own : List Nat} {tg : Tg} {it : Si} {c : Teo} {e : Ex} {s : Stmt} (h : chkS T (.setLc i own tg it c e : Sm) s = true) : ∃ x p e' gs scope cp pos, s = .Assign [.Name x p] (.ListComp e' gs scope cp) pos ∧ (decide (T.N[i]? = some x) && decide (T.sc.names.lookup x = some .local) && (p.line == cp.line) && !(scope.names.any fun (n, k) => n == x && (k == .local || k == .cell)) && chkE T (.lc own tg it c e) (.ListComp e' gs scope cp)) = true := by
  unfold chkS at h
  split at h <;> first
    | (cases h; done)
    | (contradiction)
    | (have q := ‹Sm.setLc _ _ _ _ _ _ = Sm.setLc _ _ _ _ _ _›; cases q; exact ⟨_, _, _, _, _, _, _, rfl, h⟩)
theorem inv_setT {T : Tb} {tg : Tg} {e : Ex} {s : Stmt} (h : chkS T (.setT tg e : Sm) s = true) : ∃ t v pos, s = .Assign [t] v pos ∧ (isTup t && noSwap t v && !isLc v && chkTg T tg t && chkE T e v) = true := by
  unfold chkS at h
  split at h <;> first
    | (cases h; done)
    | (contradiction)
    | (have q := ‹Sm.setT _ _ = Sm.setT _ _›; cases q; exact ⟨_, _, _, rfl, h⟩)
theorem inv_par {T : Tb} {i : Nat} {j : Nat} {a : Ex} {b : Ex} {s : Stmt} (h : chkS T (.par i j a b : Sm) s = true) : ∃ x px y py kt pt a' b' k2 pt2 pos, s = .Assign [.Tuple [.Name x px, .Name y py] kt pt] (.Tuple [a', b'] k2 pt2) pos ∧ (decide (T.N[i]? = some x) && decide (T.N[j]? = some y) && decide (i ≠ j) && decide (T.sc.names.lookup x = some .local) && decide (T.sc.names.lookup y = some .local) && (px.line == py.line) && decide (x ≠ y) && !([a', b'].all (foldedForSure 8)) && !([a', b'].all (constantsAlone 8)) && T.calm && chkE T a a' && chkE T b b') = true := by
  unfold chkS at h
  split at h <;> first
    | (cases h; done)
    | (contradiction)
    | (have q := ‹Sm.par _ _ _ _ = Sm.par _ _ _ _›; cases q; exact ⟨_, _, _, _, _, _, _, _, _, _, _, rfl, h⟩)
theorem inv_setS {T : Tb} {a : Ex} {b : Ex} {e : Ex} {s : Stmt} (h : chkS T (.setS a b e : Sm) s = true) : ∃ a' b' p v pos, s = .Assign [.Subscript a' b' p] v pos ∧ (!isLc v && chkE T a a' && chkE T b b' && chkE T e v) = true := by
  unfold chkS at h
  split at h <;> first
    | (cases h; done)
    | (contradiction)
    | (have q := ‹Sm.setS _ _ _ = Sm.setS _ _ _›; cases q; exact ⟨_, _, _, _, _, rfl, h⟩)
theorem inv_setF {T : Tb} {a : Ex} {f : Str} {e : Ex} {s : Stmt} (h : chkS T (.setF a f e : Sm) s = true) : ∃ a' f' p v pos, s = .Assign [.Attribute a' f' p] v pos ∧ (decide (f = f') && !isLc v && chkE T a a' && chkE T e v) = true := by
  unfold chkS at h
  split at h <;> first
    | (cases h; done)
    | (contradiction)
    | (have q := ‹Sm.setF _ _ _ = Sm.setF _ _ _›; cases q; exact ⟨_, _, _, _, _, rfl, h⟩)
theorem inv_set2 {T : Tb} {tg : Tg} {i : Nat} {e : Ex} {s : Stmt} (h : chkS T (.set2 tg i e : Sm) s = true) : ∃ t x p v pos, s = .Assign [t, .Name x p] v pos ∧ (isTup t && chkTg T tg t && decide (T.N[i]? = some x) && T.loc x && chkE T e v) = true := by
  unfold chkS at h
  split at h <;> first
    | (cases h; done)
    | (contradiction)
    | (have q := ‹Sm.set2 _ _ _ = Sm.set2 _ _ _›; cases q; exact ⟨_, _, _, _, _, rfl, h⟩)
theorem inv_ret {T : Tb} {e : Ex} {s : Stmt} (h : chkS T (.ret e : Sm) s = true) : ∃ v pos, s = .Return (some v) pos ∧ (chkE T e v) = true := by
  unfold chkS at h
  split at h <;> first
    | (cases h; done)
    | (contradiction)
    | (have q := ‹Sm.ret _ = Sm.ret _›; cases q; exact ⟨_, _, rfl, h⟩)
theorem inv_retN {T : Tb}  {s : Stmt} (h : chkS T (.retN : Sm) s = true) : ∃ pos, s = .Return none pos ∧ (true) = true := by
  unfold chkS at h
  split at h <;> first
    | (cases h; done)
    | (contradiction)
    | (have q := ‹Sm.retN = Sm.retN›; cases q; exact ⟨_, rfl, h⟩)
theorem inv_expr {T : Tb} {e : Ex} {s : Stmt} (h : chkS T (.expr e : Sm) s = true) : ∃ v pos, s = .Expr v pos ∧ (!isLc v && chkE T e v) = true := by
  unfold chkS at h
  split at h <;> first
    | (cases h; done)
    | (contradiction)
    | (have q := ‹Sm.expr _ = Sm.expr _›; cases q; exact ⟨_, _, rfl, h⟩)
theorem inv_ifs {T : Tb} {c : Te} {a : Sms} {b : Sms} {s : Stmt} (h : chkS T (.ifs c a b : Sm) s = true) : ∃ c' a' b' pos, s = .If c' a' b' pos ∧ (chkT T c c' && chkSs T a a' && chkSs T b b') = true := by
  unfold chkS at h
  split at h <;> first
    | (cases h; done)
    | (contradiction)
    | (have q := ‹Sm.ifs _ _ _ = Sm.ifs _ _ _›; cases q; exact ⟨_, _, _, _, rfl, h⟩)
theorem inv_whl {T : Tb} {c : Te} {b : Sms} {s : Stmt} (h : chkS T (.whl c b : Sm) s = true) : ∃ c' b' pos, s = .While c' b' [] pos ∧ (chkT T c c' && chkSs T b b') = true := by
  unfold chkS at h
  split at h <;> first
    | (cases h; done)
    | (contradiction)
    | (have q := ‹Sm.whl _ _ = Sm.whl _ _›; cases q; exact ⟨_, _, _, rfl, h⟩)
theorem inv_fo {T : Tb} {tg : Tg} {it : Si} {b : Sms} {s : Stmt} (h : chkS T (.fo tg it b : Sm) s = true) : ∃ t it' b' pos, s = .For t it' b' [] pos ∧ (T.calm && chkTg T tg t && chkI T (isTup t) it it' && chkSs T b b') = true := by
  unfold chkS at h
  split at h <;> first
    | (cases h; done)
    | (contradiction)
    | (have q := ‹Sm.fo _ _ _ = Sm.fo _ _ _›; cases q; exact ⟨_, _, _, _, rfl, h⟩)
theorem inv_brk {T : Tb}  {s : Stmt} (h : chkS T (.brk : Sm) s = true) : ∃ pos, s = .Break pos ∧ (true) = true := by
  unfold chkS at h
  split at h <;> first
    | (cases h; done)
    | (contradiction)
    | (have q := ‹Sm.brk = Sm.brk›; cases q; exact ⟨_, rfl, h⟩)
theorem inv_cont {T : Tb}  {s : Stmt} (h : chkS T (.cont : Sm) s = true) : ∃ pos, s = .Continue pos ∧ (true) = true := by
  unfold chkS at h
  split at h <;> first
    | (cases h; done)
    | (contradiction)
    | (have q := ‹Sm.cont = Sm.cont›; cases q; exact ⟨_, rfl, h⟩)

theorem asg1 {T : Tb} {tg : Tg} {t : Expr} (h : chkTg T tg t = true) (env : PySem.Env) : (assignEach [t] env).map (·.2) = [assign t env] := by
  cases tg <;> cases t <;> first | rfl | (simp [chkTg] at h)
theorem asg2 {T : Tb} {tg : Tg} {t : Expr} (h : chkTg T tg t = true) (x : Str) (p : Pos) (env : PySem.Env) : (assignEach [t, .Name x p] env).map (·.2) = [assign t env, assign (.Name x p) env] := by
  cases tg <;> cases t <;> first | rfl | (simp [chkTg] at h)
/-- behind an expression: a store -/
theorem asgK {K : PySem.W.Frag} {W : WX} {td : TD} {g : TG} {tg : D → DEnv → (DEnv → Prop) → Prop} {ss : List Nat} {D : Ends} {σ : St} {H : Hp}
    (hg : ∀ v σ H Q, liftG K ss tg v σ H Q → g v σ H Q)
    (q : liftSt K W (fun ρ M Kd => td ρ M (fun x => Kd.ex x ρ) fun d M1 => tg d ρ fun ρ2 => Kd.nx ρ2 M1) D σ H) : tAsg (lift K W td) g D σ H := by
  obtain ⟨ρ, M, Kd, R, t, kn, kr, kb, kc, kx⟩ := q
  refine ⟨ρ, M, _, _, R, t, fun d M1 v H1 e1 R1 r1 t1 => hg _ _ _ _ ⟨d, ρ, M1, _, r1, R1, t1, fun ρ' σ' R' _ _ q' => kn ρ' M1 σ' H1 e1 R' q'⟩, fun x M' c dd H' e R' rx q' => kx x ρ M' σ c dd H' e R' rx q'⟩
theorem setG {K : PySem.W.Frag} {i : Nat} : ∀ v σ H Q, liftG K [i] (fun d ρ Q => Q (ρ.set i (some d))) v σ H Q → gName i v σ H Q := fun v σ H Q q => by
  obtain ⟨d, ρ, M, Qd, rd, R, q, k⟩ := q
  exact k _ _ ⟨R.env.set rd, R.mem⟩ (by simp) (fun j hj => List.getElem?_set_ne (by simp at hj; omega)) q
theorem par_ok {x y : Str} {px py pt pt2 : Pos} {a b : Expr} {kt k2 : Nat} {env : PySem.Env} (hk : env.scope.kind = .function) (hx : env.scope.names.lookup x = some .local) (hy : env.scope.names.lookup y = some .local) (hl : (px.line == py.line) = true) (hxy : x ≠ y)
    (h1 : ([a, b].all (foldedForSure 8)) = false) (h2 : ([a, b].all (constantsAlone 8)) = false) (h3 : ([a, b].any fun | .Starred .. => true | _ => false) = false) :
    swappedStores [.Tuple [.Name x px, .Name y py] kt pt] (.Tuple [a, b] k2 pt2) env = pure (some [x, y]) := by
  have hb : env.blockKind = .function := by unfold PySem.Env.blockKind; rw [hk]; rfl
  have kx : env.kindOf x = some .local := hx
  have ky : env.kindOf y = some .local := hy
  have hyl : (py.line == px.line) = true := by rw [beq_iff_eq] at hl ⊢; exact hl.symm
  unfold swappedStores
  simp only [List.length_cons, List.length_nil, hb, h3, List.head?_cons, Option.map_some, Expr.pos, Option.getD_some, List.filterMap_cons, kx, ky, hyl, beq_self_eq_true, Bool.and_self, if_true, List.filterMap_nil, h1, h2]
  have e1 : ([x, y] : List Str).eraseDups.length = 2 := by
    have : (y == x) = false := beq_eq_false_iff_ne.mpr (Ne.symm hxy)
    simp [List.eraseDups_cons, this]
  simp only [List.any_cons, List.any_nil, Bool.or_false, Bool.or_eq_false_iff] at h3
  simp [e1]
  intro z
  rcases z with z | z
  · exact absurd (z.symm.trans h3.1) (by simp)
  · exact absurd (z.symm.trans h3.2) (by simp)
def isStar : Expr → Bool
  | .Starred _ _ => true
  | _ => false
theorem star_key : ∀ e : Expr, isStar e = false → (match e with | .Starred .. => true | _ => false) = false := by
  intro e he
  cases e <;> first | rfl | (simp [isStar] at he)
theorem chk_star {T : Tb} {m : Ex} {e : Expr} (h : chkE T m e = true) : isStar e = false := by
  cases e <;> first | rfl | (cases m <;> simp [chkE] at h)
theorem any_star {T : Tb} {m n : Ex} {a b : Expr} (ha : chkE T m a = true) (hb : chkE T n b = true) : ([a, b].any fun | .Starred .. => true | _ => false) = false := by
  have h1 := star_key a (chk_star ha)
  have h2 := star_key b (chk_star hb)
  simp only [List.any_cons, List.any_nil, Bool.or_false]
  rw [h1, h2]
  rfl
theorem lc_imp {K : PySem.W.Frag} {W : WX} {T : Tb} {own : List Nat} {tg : Tg} {it : Si} {c : Teo} {e : Ex} (hss' : ∀ i ∈ tg.ss, i ∈ own) {σ : St} {H : Hp} {Q : VK} (q : lift K W (evE Γ (.lc own tg it c e)) σ H Q) :
    tLc (liftI K W (evI Γ it)) (liftG K tg.ss (tgD tg)) (liftT K W0 (evC Γ c)) (lift K W0 (evE Γ e)) ((T.own own).map (·.2)) σ H Q := by
  obtain ⟨ρ, M, E, Qd, R, t, k, x⟩ := q
  simp only [evE] at t
  refine ⟨ρ, M, E, _, R, t, fun items G' M1 J H1 e1 R1 w t1 => ?_, x⟩
  intro p hp
  rw [own_map]
  refine comp_ok w R1 hp (t1 p (R1.mem.free hp)) (fun M5 H5 e5 m5 q5 => k _ _ _ _ (e1.trans e5) (R_of R1 e5 m5) (.ref p) q5) fun d xv M H2 H3 Kk Nx e2 m2 rx st kk => ?_
  refine ⟨d, wipeD ρ own, M, _, rx, ⟨wipe_rel (R1.env.mono e2) own, m2⟩, st, fun ρ2 σ2 R2 l2 s2 t2 => ⟨wipe_back hss' l2 s2, ρ2, M, E0, _, R2, t2, fun b M3 H4 e3 R3 t3 => ?_, fun _ _ _ _ _ _ _ _ z => z.elim⟩⟩
  cases b with
  | true => exact ⟨ρ2, M3, E0, _, R3, t3, fun d4 M4 v4 H5 e4 R4 r4 t4 => kk (some d4) M4 (some v4) H5 ((e2.trans e3).trans e4) R4.mem r4 t4, fun _ _ _ _ _ _ _ _ z => z.elim⟩
  | false => exact kk none M3 none H4 (e2.trans e3) R3.mem trivial t3
theorem sub_asg {T : Tb} {m : Ex} {i : Expr} (h : chkE T m i = true) (o : Expr) (pos : Pos) {env : PySem.Env} : ∀ v, assign (.Subscript o i pos) env v = (do
      let ov ← holding [v] (eval o env)
      let iv ← holding [v, ov] (eval i env)
      standAt pos
      holding [v, ov, iv] (setItem ov iv v)
      release [v, ov, iv] []) := by
  intro v
  cases i <;> first | rfl | (cases m <;> simp [chkE] at h)
theorem len_putD (f : Str) (d : D) : ∀ fs : List (Str × D), (putD f d fs).length = if (fs.lookup f).isSome then fs.length else fs.length + 1
  | [] => rfl
  | (g, e) :: r => by
    unfold putD
    by_cases h : g = f
    · subst h; simp [List.lookup]
    · rw [if_neg h, List.length_cons, len_putD f d r]
      simp only [List.lookup, beq_eq_false_iff_ne.mpr (Ne.symm h), List.length_cons]
      split <;> rfl
theorem len_putF (f : Str) (d : V) : ∀ fs : List (Str × V), (putF f d fs).length = if (fs.lookup f).isSome then fs.length else fs.length + 1
  | [] => rfl
  | (g, e) :: r => by
    unfold putF
    by_cases h : g = f
    · subst h; simp [List.lookup]
    · rw [if_neg h, List.length_cons, len_putF f d r]
      simp only [List.lookup, beq_eq_false_iff_ne.mpr (Ne.symm h), List.length_cons]
      split <;> rfl
theorem RelM.putI {K : PySem.W.Frag} {M : Mm} {H : Hp} {a C dx : Addr} {vfs : List (Str × V)} {fs : List (Str × D)} {f : Str} {d : D} {v : V} (m : RelM K M H) (h : H a = some (.ins C dx vfs)) (r : Rep K H d v) (l : vfs.length ≤ fs.length)
    (w3 : ∀ f d, fs.lookup f = some d → ∃ v, vfs.lookup f = some v ∧ Rep K H d v) (w4 : ∀ f, fs.lookup f = none → vfs.lookup f = none) (hl : fs.length < 50) :
    RelM K (M.put a (.ins C (putD f d fs))) (upd H a (.ins C dx (putF f v vfs))) := fun p o hp => by
  have t : TX H (upd H a (.ins C dx (putF f v vfs))) := TX.put h (fun _ z => by cases z) (fun _ _ z => by cases z)
  by_cases ha : p = a
  · subst ha; rw [Mm.put_same] at hp; cases hp
    refine ⟨dx, _, upd_same, ?_, fun g e hg => ?_, fun g hg => ?_⟩
    · rw [len_putD, len_putF]
      cases z : fs.lookup f with
      | none => rw [w4 f z]; simp; omega
      | some e => obtain ⟨u, a1, _⟩ := w3 f e z; rw [a1]; simpa using l
    · rw [lookup_putD] at hg
      rw [lookup_putF]
      by_cases z : g = f
      · rw [if_pos z] at hg; cases hg; rw [if_pos z]; exact ⟨v, rfl, r.mono t⟩
      · rw [if_neg z] at hg ⊢; obtain ⟨u, a1, a2⟩ := w3 g e hg; exact ⟨u, a1, a2.mono t⟩
    · rw [lookup_putD] at hg
      rw [lookup_putF]
      by_cases z : g = f
      · rw [if_pos z] at hg; cases hg
      · rw [if_neg z] at hg ⊢; exact w4 g hg
  · rw [Mm.put_ne ha] at hp; exact (m p o hp).keep t (upd_ne ha)
mutual
theorem soundS : ∀ (m : Sm) {X : Cx} {T : Tb} {W : WX} {Γ : Gm} (G : GoodS CX X T Γ W lv) (e : Stmt), chkS T m e = true → PS X e (liftSt X.K W (evS Γ m))
  | .set i a, X, T, W, Γ, G, e, h => by
    obtain ⟨x, p, v, pos, rfl, hh⟩ := inv_set h
    replace h := hh
    simp only [Bool.and_eq_true, decide_eq_true_eq, Bool.not_eq_true'] at h
    obtain ⟨⟨⟨h1, h2⟩, h3⟩, h4⟩ := h
    obtain ⟨l, f⟩ := G.toGood.loc h2
    exact PS.imp (ps_set G.nd (by rw [G.n]; exact h1) l (soundE a G.toGood v h4) (swaps_no h3 _ _ _) f) fun D σ H q => asgK (tg := fun d ρ Q => Q (ρ.set i (some d))) setG q
  | .setLc i own tg it c a, X, T, W, Γ, G, e, h => by
    obtain ⟨x, p, e', gs, scope, cp, pos, rfl, hh⟩ := inv_setLc h
    replace h := hh
    simp only [Bool.and_eq_true, decide_eq_true_eq, Bool.not_eq_true'] at h
    obtain ⟨⟨⟨⟨h1, h2⟩, h3⟩, h4⟩, h5⟩ := h
    match gs, h5 with
    | [⟨tg', it', ifs, asy⟩], h5 =>
      simp only [chkE, Bool.and_eq_true, decide_eq_true_eq] at h5
      obtain ⟨⟨⟨⟨⟨⟨⟨hcm, rfl⟩, hb⟩, hss⟩, ht⟩, hi⟩, hc⟩, he⟩ := h5
      have hss' : ∀ i ∈ tg.ss, i ∈ own := fun i hi => by simpa using List.all_eq_true.mp hss i hi
      refine ⟨fun pins s σ H D I q => ?_⟩
      have G0 := G.toGood
      have hsw : swapsWith (.ListComp e' [⟨tg', it', ifs, 0⟩] scope cp) (some (.Name x p)) pos.line X.env = pure true := sw_true I.ok.kind (by rw [G.sc]; exact h2) h3 h4
      refine (ps_setLc (own := T.own own) (te := lift X.K W0 (evE Γ a)) (tt := liftT X.K W0 (evC Γ c)) (g := liftG X.K tg.ss (tgD tg)) (G.calm hcm) G.nd (by rw [G.n]; exact h1) (by rw [G.sc]; exact h2) hsw (soundI it G0 tg' it' hi) (by rw [G.n, G.sc]; exact blkOk_by hb)
        (fun s H C cl fp => soundG (G0.blk hcm s H scope C cl fp) tg tg' ht) (fun s H C cl fp => soundC c (G0.blk hcm s H scope C cl fp) ifs hc) (fun s H C cl fp => soundE a (G0.blk hcm s H scope C cl fp) e' he) (iter_ok hi X.env)).run pins s σ H D I ?_
      have q2 : tAsg (lift X.K W (evE Γ (.lc own tg it c a))) (gName i) D σ H := asgK (tg := fun d ρ Q => Q (ρ.set i (some d))) setG q
      exact lc_imp hss' q2
  | .setT tg a, X, T, W, Γ, G, e, h => by
    obtain ⟨t, v, pos, rfl, hh⟩ := inv_setT h
    replace h := hh
    simp only [Bool.and_eq_true, Bool.not_eq_true'] at h
    obtain ⟨⟨⟨⟨h1, h2⟩, h3⟩, h4⟩, h5⟩ := h
    exact PS.imp (ps_asg (soundE a G.toGood v h5) (soundG G.toGood tg t h4) (swaps_no h3 _ _ _) (swapped_no h2 _) (asg1 h4 _)) fun D σ H q => asgK (tg := fun d ρ Q => tgD tg d ρ Q) (fun _ _ _ _ q => q) q
  | .par i j a b, X, T, W, Γ, G, e, h => by
    obtain ⟨x, px, y, py, kt, pt, a', b', k2, pt2, pos, rfl, hh⟩ := inv_par h
    replace h := hh
    simp only [Bool.and_eq_true, decide_eq_true_eq, Bool.not_eq_true'] at h
    obtain ⟨⟨⟨⟨⟨⟨⟨⟨⟨⟨⟨h1, h2⟩, h3⟩, h4⟩, h5⟩, h6⟩, h7⟩, h8⟩, h9⟩, hcm⟩, ha⟩, hb⟩ := h
    have k : X.env.scope.kind = .function → swappedStores [.Tuple [.Name x px, .Name y py] kt pt] (.Tuple [a', b'] k2 pt2) X.env = pure (some [x, y]) := fun hk =>
      par_ok hk (by rw [G.sc]; exact h4) (by rw [G.sc]; exact h5) h6 h7 h8 h9 (any_star ha hb)
    refine ⟨fun pins s σ H D I q => (ps_par (G.calm hcm) G.nd (by rw [G.n]; exact h1) (by rw [G.n]; exact h2) h3 (by rw [G.sc]; exact h4) (by rw [G.sc]; exact h5)
      (pa_cons (soundE a G.toGood a' ha) (pa_cons (soundE b G.toGood b' hb) pa_nil (star_ok hb [] X.env)) (star_ok ha [b'] X.env)) (k I.ok.kind) (by rfl)).run pins s σ H D I ?_⟩
    obtain ⟨ρ, M, Kd, R, t, kn, kr, kb, kc, kx⟩ := q
    simp only [evS] at t
    refine ⟨ρ, M, _, _, R, t, fun d M1 v H1 e1 R1 r1 t1 => ⟨ρ, M1, _, _, R1, t1, fun d2 M2 v2 H2 e2 R2 r2 t2 => ⟨v, v2, rfl, ?_⟩, fun x M' c dd H' e R' rx q' => kx x ρ M' σ c dd H' (e1.trans e) R' rx q'⟩, fun x M' c dd H' e R' rx q' => kx x ρ M' σ c dd H' e R' rx q'⟩
    exact kn _ M2 _ H2 (e1.trans e2) ⟨(R2.env.set (r1.mono e2)).set r2, R2.mem⟩ t2
  | .setS a b v, X, T, W, Γ, G, e, h => by
    obtain ⟨a', b', p, v', pos, rfl, hh⟩ := inv_setS h
    replace h := hh
    simp only [Bool.and_eq_true, Bool.not_eq_true'] at h
    obtain ⟨⟨⟨h1, h2⟩, h3⟩, h4⟩ := h
    refine PS.imp (ps_asg (soundE v G.toGood v' h4) (pg_sub (soundE a G.toGood a' h2) (soundE b G.toGood b' h3) set_list (sub_asg h3 _ _)) (show swapsWith v' (some (.Subscript a' b' p)) pos.line X.env = pure false from swaps_no h1 _ _ _) (by cases v' <;> rfl) (by rfl)) fun D σ H q => ?_
    obtain ⟨ρ, M, Kd, R, t, kn, kr, kb, kc, kx⟩ := q
    simp only [evS] at t
    refine ⟨ρ, M, _, _, R, t, fun d M1 v H1 e1 R1 r1 t1 => ⟨ρ, M1, _, _, R1, t1, fun d2 M2 v2 H2 e2 R2 r2 t2 => ⟨ρ, M2, _, _, R2, t2, fun d3 M3 v3 H3 e3 R3 r3 t3 => ?_,
      fun x M' c dd H' e R' rx q' => kx x ρ M' σ c dd H' ((e1.trans e2).trans e) R' rx q'⟩, fun x M' c dd H' e R' rx q' => kx x ρ M' σ c dd H' (e1.trans e) R' rx q'⟩, fun x M' c dd H' e R' rx q' => kx x ρ M' σ c dd H' e R' rx q'⟩
    cases d2 <;> cases d3 <;> try (exact t3.elim)
    cases r2; cases r3
    obtain ⟨xs, j, g1, g2, g3⟩ := t3
    obtain ⟨vs, w1, w2⟩ := R3.mem _ _ g1
    have e4 : TX H3 (upd H3 _ (.lst (vs.set j v))) := TX.put w1 (fun _ z => by cases z) (fun _ _ z => by cases z)
    exact ⟨_, vs, _, j, rfl, rfl, w1, by rw [← w2.length]; exact g2, kn _ _ _ _ (((e1.trans e2).trans e3).trans e4) ⟨R3.env.mono e4, R3.mem.putL w1 (w2.set (r1.mono (e2.trans e3)) j)⟩ g3⟩
  | .setF a f v, X, T, W, Γ, G, e, h => by
    obtain ⟨a', f', p, v', pos, rfl, hh⟩ := inv_setF h
    replace h := hh
    simp only [Bool.and_eq_true, Bool.not_eq_true', decide_eq_true_eq] at h
    obtain ⟨⟨⟨rfl, h1⟩, h2⟩, h3⟩ := h
    refine PS.imp (ps_fld (soundE a G.toGood a' h2) (soundE v G.toGood v' h3) (swaps_no h1 _ _ _)) fun D σ H q => ?_
    obtain ⟨ρ, M, Kd, R, t, kn, kr, kb, kc, kx⟩ := q
    simp only [evS] at t
    refine ⟨ρ, M, _, _, R, t, fun d M1 v H1 e1 R1 r1 t1 => ⟨ρ, M1, _, _, R1, t1, fun d2 M2 v2 H2 e2 R2 r2 t2 => ?_,
      fun x M' c dd H' e R' rx q' => kx x ρ M' σ c dd H' (e1.trans e) R' rx q'⟩, fun x M' c dd H' e R' rx q' => kx x ρ M' σ c dd H' e R' rx q'⟩
    cases d2 <;> try (exact t2.elim)
    cases r2
    obtain ⟨C, fs, g1, g2, g3, g4⟩ := t2
    obtain ⟨dx, vfs, w1, w2, w3, w4⟩ := R2.mem _ _ g1
    have e3 : TX H2 (upd H2 _ (.ins C dx (putF f v vfs))) := TX.put w1 (fun _ z => by cases z) (fun _ _ z => by cases z)
    refine ⟨_, C, dx, vfs, rfl, w1, (G.fld _ _ g2).1, (G.fld _ _ g2).2, by omega, kn _ _ _ _ ((e1.trans e2).trans e3) ⟨R2.env.mono e3, fun p o hp => ?_⟩ g4⟩
    exact R2.mem.putI w1 (r1.mono e2) w2 w3 w4 g3 p o hp
  | .set2 tg i a, X, T, W, Γ, G, e, h => by
    obtain ⟨t, x, p, v, pos, rfl, hh⟩ := inv_set2 h
    replace h := hh
    simp only [Bool.and_eq_true, decide_eq_true_eq] at h
    obtain ⟨⟨⟨⟨h1, h2⟩, h3⟩, h4⟩, h5⟩ := h
    obtain ⟨l, f⟩ := G.toGood.loc h4
    refine PS.imp (ps_asg2 (soundE a G.toGood v h5) (soundG G.toGood tg t h2) (pg_name G.nd (by rw [G.n]; exact h3) l f) (asg2 h2 x p _) (by cases t <;> first | (simp [isTup] at h1; done) | (cases v <;> rfl))) fun D σ H q => ?_
    obtain ⟨ρ, M, Kd, R, t, kn, kr, kb, kc, kx⟩ := q
    simp only [evS] at t
    refine ⟨ρ, M, _, _, R, t, fun d M1 v H1 e1 R1 r1 t1 => ⟨d, ρ, M1, _, r1, R1, t1, fun ρ' σ' R' _ _ q' => kn _ M1 _ H1 e1 ⟨R'.env.set r1, R'.mem⟩ q'⟩, fun x M' c dd H' e R' rx q' => kx x ρ M' σ c dd H' e R' rx q'⟩
  | .ret a, X, T, W, Γ, G, e, h => by
    obtain ⟨v, pos, rfl, hh⟩ := inv_ret h
    replace h := hh
    refine PS.imp (ps_ret (soundE a G.toGood v h)) fun D σ H q => ?_
    obtain ⟨ρ, M, Kd, R, t, kn, kr, kb, kc, kx⟩ := q
    simp only [evS] at t
    exact ⟨ρ, M, _, _, R, t, fun d M1 v H1 e1 R1 r1 t1 => kr d M1 v H1 e1 R1.mem r1 t1, fun x M' c dd H' e R' rx q' => kx x ρ M' σ c dd H' e R' rx q'⟩
  | .retN, X, T, W, Γ, G, e, h => by
    obtain ⟨pos, rfl, hh⟩ := inv_retN h
    replace h := hh
    refine PS.imp ps_retN fun D σ H q => ?_
    obtain ⟨ρ, M, Kd, R, t, kn, kr, kb, kc, kx⟩ := q
    exact kr _ _ _ _ (TX.refl H) R.mem .non t
  | .expr a, X, T, W, Γ, G, e, h => by
    obtain ⟨v, pos, rfl, hh⟩ := inv_expr h
    replace h := hh
    simp only [Bool.and_eq_true, Bool.not_eq_true'] at h
    refine PS.imp (ps_expr (soundE a G.toGood v h.2) (swaps_no h.1 _ _ _)) fun D σ H q => ?_
    obtain ⟨ρ, M, Kd, R, t, kn, kr, kb, kc, kx⟩ := q
    simp only [evS] at t
    exact ⟨ρ, M, _, _, R, t, fun d M1 v H1 e1 R1 r1 t1 => kn ρ M1 σ H1 e1 R1 t1, fun x M' c dd H' e R' rx q' => kx x ρ M' σ c dd H' e R' rx q'⟩
  | .ifs c a b, X, T, W, Γ, G, e, h => by
    obtain ⟨c', a', b', pos, rfl, hh⟩ := inv_ifs h
    replace h := hh
    simp only [Bool.and_eq_true] at h
    refine PS.imp (ps_if (soundT c G.toGood c' h.1.1) (soundSs a G a' h.1.2) (soundSs b G b' h.2)) fun D σ H q => ?_
    obtain ⟨ρ, M, Kd, R, t, kn, kr, kb, kc, kx⟩ := q
    simp only [evS] at t
    refine ⟨ρ, M, _, _, R, t, fun k M1 H1 e1 R1 t1 => ?_, fun x M' c dd H' e R' rx q' => kx x ρ M' σ c dd H' e R' rx q'⟩
    cases k with
    | true => exact ⟨ρ, M1, Kd, R1, t1, fun ρ' M' σ' H' e' => kn ρ' M' σ' H' (e1.trans e'), fun d M' v H' e' => kr d M' v H' (e1.trans e'), fun ρ' M' σ' H' e' => kb ρ' M' σ' H' (e1.trans e'), fun ρ' M' σ' H' e' => kc ρ' M' σ' H' (e1.trans e'), fun x ρ' M' σ' c dd H' e' => kx x ρ' M' σ' c dd H' (e1.trans e')⟩
    | false => exact ⟨ρ, M1, Kd, R1, t1, fun ρ' M' σ' H' e' => kn ρ' M' σ' H' (e1.trans e'), fun d M' v H' e' => kr d M' v H' (e1.trans e'), fun ρ' M' σ' H' e' => kb ρ' M' σ' H' (e1.trans e'), fun ρ' M' σ' H' e' => kc ρ' M' σ' H' (e1.trans e'), fun x ρ' M' σ' c dd H' e' => kx x ρ' M' σ' c dd H' (e1.trans e')⟩
  | .whl c b, X, T, W, Γ, G, e, h => by
    obtain ⟨c', b', pos, rfl, hh⟩ := inv_whl h
    replace h := hh
    simp only [Bool.and_eq_true] at h
    refine PS.imp (ps_while G.own (soundT c G.toGood c' h.1) (soundSs b G b' h.2)) fun D σ H q => ?_
    obtain ⟨ρ, M, Kd, R, ⟨n, t⟩, kn, kr, kb, kc, kx⟩ := q
    refine ⟨fun m σ' H' => TX H H' ∧ ∃ ρ' M', Rel X.K ρ' M' σ' H' ∧ whlD (evT Γ c) (evSs Γ b) Kd m ρ' M', ⟨n, TX.refl H, ρ, M, R, t⟩, ?_⟩
    rintro m σ1 H1 ⟨e1, ρ1, M1, R1, t1⟩
    cases m with
    | zero => exact t1.elim
    | succ m =>
      simp only [whlD] at t1
      refine ⟨ρ1, M1, _, _, R1, t1, fun k M2 H2 e2 R2 t2 => ?_, fun x M' c dd H' e R' rx q' => kx x ρ1 M' σ1 c dd H' (e1.trans e) R' rx q'⟩
      cases k with
      | false => exact kn ρ1 M2 σ1 H2 (e1.trans e2) R2 t2
      | true =>
        refine ⟨fun σ' H' => TX H H' ∧ ∃ ρ' M', Rel X.K ρ' M' σ' H' ∧ whlD (evT Γ c) (evSs Γ b) Kd m ρ' M', fun σ' H' q => ⟨m, Nat.lt_succ_self m, q⟩, ρ1, M2, _, R2, t2, ?_⟩
        exact ⟨fun ρ' M' σ' H' e' R' q' => ⟨(e1.trans e2).trans e', ρ', M', R', q'⟩, fun d M' v H' e' => kr d M' v H' ((e1.trans e2).trans e'), fun ρ' M' σ' H' e' => kn ρ' M' σ' H' ((e1.trans e2).trans e'),
          fun ρ' M' σ' H' e' R' q' => ⟨(e1.trans e2).trans e', ρ', M', R', q'⟩, fun x ρ' M' σ' c dd H' e' => kx x ρ' M' σ' c dd H' ((e1.trans e2).trans e')⟩
  | .fo tg it b, X, T, W, Γ, G, e, h => by
    obtain ⟨t, it', b', pos, rfl, hh⟩ := inv_fo h
    replace h := hh
    simp only [Bool.and_eq_true] at h
    refine PS.imp (ps_for G.own (G.calm h.1.1.1) (soundI it G.toGood t it' h.1.2) (soundG G.toGood tg t h.1.1.2) (soundSs b G b' h.2) (iter_ok h.1.2 X.env)) fun D σ H q => ?_
    obtain ⟨ρ, M, Kd, R, t, kn, kr, kb, kc, kx⟩ := q
    simp only [evS] at t
    refine ⟨ρ, M, _, _, R, t, fun items G' M1 J H1 e1 R1 w t1 => ?_, fun x M' c dd H' e R' rx q' => kx x ρ M' σ c dd H' e R' rx q'⟩
    obtain ⟨GH, Y, wk, hG, hY⟩ := w.ex
    refine ⟨fun i m σ' H' => m = items.length - i ∧ i ≤ items.length ∧ TX H1 H' ∧ ∃ ρ' M', Rel X.K ρ' M' σ' H' ∧ forD G' tg (evSs Γ b) Kd (items.drop i) ρ' M', ⟨_, rfl, Nat.zero_le _, TX.refl _, ρ, M1, R1, by rw [List.drop_zero]; exact t1⟩, ?_⟩
    rintro i m σ2 H2 ⟨rfl, hi, e2, ρ2, M2, R2, t2⟩
    by_cases hlt : i < items.length
    · have hd : items.drop i = items[i] :: items.drop (i + 1) := List.drop_eq_getElem_cons hlt
      rw [hd] at t2
      simp only [forD] at t2
      obtain ⟨cg, t2⟩ := t2
      have gh := hG M2 H2 e2 R2.mem cg
      refine .inr ⟨wk.goes i H2 hlt gh, fun σ' H' => TX H1 H' ∧ ∃ ρ' M', Rel X.K ρ' M' σ' H' ∧ forD G' tg (evSs Γ b) Kd (items.drop (i + 1)) ρ' M', fun σ' H' p' => ⟨items.length - (i + 1), by omega, rfl, hlt, p'⟩, fun x H' y => ?_⟩
      obtain ⟨e3, k1, _, rx⟩ := hY i H2 x H' items[i] e2 (by simp [hlt]) (wk.yields i H2 x H' hlt gh y)
      refine ⟨items[i], ρ2, M2, _, rx, ⟨R2.env.mono e3, k1 M2 R2.mem⟩, t2, fun ρ3 σ3 R3 _ _ t3 => ⟨ρ3, M2, _, R3, t3, ?_⟩⟩
      exact ⟨fun ρ' M' σ' H' e' R' q' => ⟨(e2.trans e3).trans e', ρ', M', R', q'⟩, fun d M' v H' e' => kr d M' v H' (((e1.trans e2).trans e3).trans e'), fun ρ' M' σ' H' e' => kn ρ' M' σ' H' (((e1.trans e2).trans e3).trans e'),
          fun ρ' M' σ' H' e' R' q' => ⟨(e2.trans e3).trans e', ρ', M', R', q'⟩, fun x ρ' M' σ' c dd H' e' => kx x ρ' M' σ' c dd H' (((e1.trans e2).trans e3).trans e')⟩
    · have ei : i = items.length := by omega
      subst ei
      rw [List.drop_length] at t2
      simp only [forD] at t2
      exact .inl ⟨wk.stops H2 (hG M2 H2 e2 R2.mem t2.1), kn ρ2 M2 σ2 H2 (e1.trans e2) R2 t2.2⟩
  | .pass, X, T, W, Γ, G, e, h => by
    unfold chkS at h
    split at h <;> first
      | (cases h; done)
      | contradiction
      | (refine PS.imp ps_pass fun D σ H q => ?_
         obtain ⟨ρ, M, Kd, R, t, kn, kr, kb, kc, kx⟩ := q
         exact kn _ _ _ _ (TX.refl H) R t)
      | (refine PS.imp ps_doc fun D σ H q => ?_
         obtain ⟨ρ, M, Kd, R, t, kn, kr, kb, kc, kx⟩ := q
         exact kn _ _ _ _ (TX.refl H) R t)
  | .brk, X, T, W, Γ, G, e, h => by
    obtain ⟨pos, rfl, hh⟩ := inv_brk h
    replace h := hh
    refine PS.imp ps_break fun D σ H q => ?_
    obtain ⟨ρ, M, Kd, R, t, kn, kr, kb, kc, kx⟩ := q
    exact kb _ _ _ _ (TX.refl H) R t
  | .cont, X, T, W, Γ, G, e, h => by
    obtain ⟨pos, rfl, hh⟩ := inv_cont h
    replace h := hh
    refine PS.imp ps_continue fun D σ H q => ?_
    obtain ⟨ρ, M, Kd, R, t, kn, kr, kb, kc, kx⟩ := q
    exact kc _ _ _ _ (TX.refl H) R t
  | .raise g m, X, T, W, Γ, G, e, h => by
    obtain ⟨x, p, vs, pos, pos2, rfl, hh⟩ := inv_raise h
    replace h := hh
    simp only [Bool.and_eq_true, decide_eq_true_eq] at h
    obtain ⟨⟨⟨⟨⟨hcm, hg⟩, hgl⟩, hp⟩, hne⟩, hc⟩ := h
    cases vs with
    | nil => simp at hne
    | cons v vs => exact raise_ok G hcm hg hgl hp hc
  | .raise0 g, X, T, W, Γ, G, e, h => by
    obtain ⟨x, p, pos, pos2, rfl, hh⟩ := inv_raise0 h
    replace h := hh
    simp only [Bool.and_eq_true, decide_eq_true_eq] at h
    obtain ⟨⟨⟨hcm, hg⟩, hgl⟩, hp⟩ := h
    exact raise0_ok G hcm hg hgl hp
  | .trA b i g s2, X, T, W, Γ, G, e, h => by
    obtain ⟨b', x, p, n, s', p2, pos, rfl, hh⟩ := inv_trA h
    replace h := hh
    simp only [Bool.and_eq_true, decide_eq_true_eq] at h
    obtain ⟨⟨⟨⟨⟨⟨⟨⟨hcm, hg⟩, hgl⟩, hp⟩, hn⟩, hl⟩, hne⟩, hb⟩, hs⟩ := h
    obtain ⟨u, nu, hu⟩ := names_of G hg hgl hp
    first
    | skip
      cases s' with
      | nil => simp at hne
      | cons b₀ suite =>
        refine PS.imp (ps_try_as (i := i) (c := u) (tb := fun W' => liftSt X.K W' (evSs Γ b)) (ts := fun a cls d D σ H => ∃ C, cls = .ref C ∧ liftSt X.K W0 (evSs { Γ with exn := some (a, C, d) } s2) D σ H) (Wout := W)
          G.stk G.frm G.nd (by rw [G.n]; exact hn) (by unfold PySem.Env.kindOf; rw [G.sc]; exact hl) nu G.tk
          (fun W' pn xe tk own => soundSs b (G.tr hcm tk own) b' hb)
          (fun a oe cls d pn hz hf => ⟨fun pins s σ H D I q => by
            obtain ⟨C, rfl, q⟩ := q
            exact (soundSs s2 (G.suite hz hf) (b₀ :: suite) hs).run pins s σ H D I q⟩)) fun D σ H q => ?_
        obtain ⟨ρ, M, Kd, R, t, kn, kr, kb, kc, kx⟩ := q
        simp only [evS] at t
        refine ⟨ρ, M, _, R, t, kn, kr, kb, kc, fun x ρ1 M1 σ1 cls dd H1 e1 R1 rx q' => ?_⟩
        obtain ⟨C2, k, e2, hk, hyes, hno⟩ := q'
        have e3 := hu _ e2
        subst e3
        obtain ⟨rfl, rfl⟩ := rx
        refine ⟨k, (G.sub _ _ _ hk).2.2, fun hkt a ha => ⟨x.C, rfl, ρ1.set i (some (.ref a)), M1, _, ⟨R1.env.set (.ref a), R1.mem⟩, hyes hkt a (R1.mem.free ha), ?_, ?_, ?_, ?_, ?_⟩, fun hkf => kx x ρ1 M1 σ1 _ _ H1 e1 R1 ⟨rfl, rfl⟩ (hno hkf)⟩
        · exact fun ρ' M' σ' H' e' R' q' => kn _ M' _ H' (e1.trans e') ⟨R'.env.clr i, R'.mem⟩ q'
        · exact fun d M' v H' e' m' r' q' => kr d M' v H' (e1.trans e') m' r' q'
        · exact fun ρ' M' σ' H' e' R' q' => kb _ M' _ H' (e1.trans e') ⟨R'.env.clr i, R'.mem⟩ q'
        · exact fun ρ' M' σ' H' e' R' q' => kc _ M' _ H' (e1.trans e') ⟨R'.env.clr i, R'.mem⟩ q'
        · exact fun x' ρ' M' σ' cls' dd' H' e' R' rx' q' => q'.elim
  | .trO b g s2, X, T, W, Γ, G, e, h => by
    obtain ⟨b', x, p, s', p2, pos, rfl, hh⟩ := inv_trO h
    replace h := hh
    simp only [Bool.and_eq_true, decide_eq_true_eq] at h
    obtain ⟨⟨⟨⟨⟨⟨hcm, hg⟩, hgl⟩, hp⟩, hne⟩, hb⟩, hs⟩ := h
    obtain ⟨u, nu, hu⟩ := names_of G hg hgl hp
    first
    | skip
      cases s' with
      | nil => simp at hne
      | cons b₀ suite =>
        refine PS.imp (ps_try_only (c := u) (tb := fun W' => liftSt X.K W' (evSs Γ b)) (ts := fun a cls d D σ H => ∃ C, cls = .ref C ∧ liftSt X.K W0 (evSs { Γ with exn := some (a, C, d) } s2) D σ H) (Wout := W)
          G.stk G.frm nu G.tk
          (fun W' pn xe tk own => soundSs b (G.tr hcm tk own) b' hb)
          (fun a oe cls d pn hz hf => ⟨fun pins s σ H D I q => by
            obtain ⟨C, rfl, q⟩ := q
            exact (soundSs s2 (G.suite hz hf) (b₀ :: suite) hs).run pins s σ H D I q⟩)) fun D σ H q => ?_
        obtain ⟨ρ, M, Kd, R, t, kn, kr, kb, kc, kx⟩ := q
        simp only [evS] at t
        refine ⟨ρ, M, _, R, t, kn, kr, kb, kc, fun x ρ1 M1 σ1 cls dd H1 e1 R1 rx q' => ?_⟩
        obtain ⟨C2, k, e2, hk, hyes, hno⟩ := q'
        have e3 := hu _ e2
        subst e3
        obtain ⟨rfl, rfl⟩ := rx
        refine ⟨k, (G.sub _ _ _ hk).2.2, fun hkt a ha => ⟨x.C, rfl, ρ1, M1, _, R1, hyes hkt a (R1.mem.free ha), ?_, ?_, ?_, ?_, ?_⟩, fun hkf => kx x ρ1 M1 σ1 _ _ H1 e1 R1 ⟨rfl, rfl⟩ (hno hkf)⟩
        · exact fun ρ' M' σ' H' e' R' q' => kn _ M' _ H' (e1.trans e') R' q'
        · exact fun d M' v H' e' m' r' q' => kr d M' v H' (e1.trans e') m' r' q'
        · exact fun ρ' M' σ' H' e' R' q' => kb _ M' _ H' (e1.trans e') R' q'
        · exact fun ρ' M' σ' H' e' R' q' => kc _ M' _ H' (e1.trans e') R' q'
        · exact fun x' ρ' M' σ' cls' dd' H' e' R' rx' q' => q'.elim
  | .never, X, T, W, Γ, G, e, h => PS.imp ps_never fun D σ H q => by
      obtain ⟨ρ, M, Kd, R, t, kn, kr, kb, kc, kx⟩ := q
      exact t
theorem soundSs : ∀ (m : Sms) {X : Cx} {T : Tb} {W : WX} {Γ : Gm} (G : GoodS CX X T Γ W lv) (es : List Stmt), chkSs T m es = true → PSs X es (liftSt X.K W (evSs Γ m))
  | .nil, X, T, W, Γ, G, es, h => by
    cases es with
    | cons _ _ => simp [chkSs] at h
    | nil =>
      refine PSs.imp pss_nil fun D σ H q => ?_
      obtain ⟨ρ, M, Kd, R, t, kn, kr, kb, kc, kx⟩ := q
      exact kn _ _ _ _ (TX.refl H) R t
  | .cons m ms, X, T, W, Γ, G, es, h => by
    cases es with
    | nil => simp [chkSs] at h
    | cons e es =>
      simp only [chkSs, Bool.and_eq_true] at h
      refine PSs.imp (pss_cons (soundS m G e h.1) (soundSs ms G es h.2)) fun D σ H q => ?_
      obtain ⟨ρ, M, Kd, R, t, kn, kr, kb, kc, kx⟩ := q
      simp only [evSs] at t
      exact ⟨ρ, M, _, R, t, fun ρ' M' σ' H' e1 R' t1 => ⟨ρ', M', Kd, R', t1, fun ρ' M' σ' H' e' => kn ρ' M' σ' H' (e1.trans e'), fun d M' v H' e' => kr d M' v H' (e1.trans e'), fun ρ' M' σ' H' e' => kb ρ' M' σ' H' (e1.trans e'), fun ρ' M' σ' H' e' => kc ρ' M' σ' H' (e1.trans e'), fun x ρ' M' σ' c dd H' e' => kx x ρ' M' σ' c dd H' (e1.trans e')⟩, kr, kb, kc, kx⟩
end
end
end DL
namespace DL
open PySem PySem.Spec L2
open PyProof.Rows (envOfC)

/-! ### a def's promise from its text -/
def GlobOkM (CX : CXT) (P : Program) (w : World) (K : PySem.W.Frag) (mg : Str → Option Value) (base : Heap) (lv : Nat) (x : Str) : Option (Nat × Nat) → GV → Prop
  | some (n, k), .fn n' sp dfl => n' = n ∧ dfl.length = k ∧ ∃ f fd ps, FnOk P w K mg base CX lv f fd ps (liftSp K n sp) ∧ mg x = some (.ref f) ∧ PySem.W.keepIn K (.ref f) = true ∧ ps.length = n ∧
      ∀ j, j ≤ k → ∃ dvs ds, Binds K fd ps ds ∧ Vals dvs ds ∧ ∀ H, Reps K H (dfl.drop (k - j)) dvs
  | none, .val d => ∃ u v, mg x = some u ∧ RelV v u ∧ ∀ H, Rep K H d v
  | none, .cls C => mg x = some (.ref C)
  | none, .err C fs tx => mg x = some (.ref C) ∧ ErrOk CX P w K mg base lv C fs tx
  | none, .cla C i => mg x = some (.ref C) ∧ ClaOk CX P w K mg base lv C i
  | _, _ => False
/-- what the module knows, at a level of calls -/
structure GM (CX : CXT) (P : Program) (w : World) (K : PySem.W.Frag) (mg : Str → Option Value) (base : Heap) (T : Tb) (Γ : Gm) (lv : Nat) : Prop where
  xn : ∀ x ∈ T.xn, mg x = none
  gcd : T.gcd = true → mg "gcd" = some (.builtin "math.gcd")
  glob : ∀ g x o, T.gn[g]? = some (x, o) → GlobOkM CX P w K mg base lv x o (Γ.gv g)
  fld : ∀ C f, Γ.fld C f → Cls K C ∧ NoAttr K C f
  kwc : ∀ g x nk np ks pat n' sp dfl, T.gn[g]? = some (x, some nk) → Γ.gv g = .fn n' sp dfl → Γ.kwc g np ks = some pat → KwOk CX P w K mg base lv x n' sp np ks pat
  mt : ∀ g C m n sp dfl, (Γ.gv g).insOf = some C → Γ.mt g m = some (n, sp, dfl) → MtOk CX P w K mg base lv C m n sp dfl
  pr : ∀ g C f sp, (Γ.gv g).insOf = some C → Γ.pr g f = some sp → PrOk CX P w K mg base lv C f sp
  isi : ∀ t C b, Γ.isi t C = some b → IsiOk K t C b
  nf : ∀ t C, Γ.nf t C = true → PySem.W.notFirst K C (clsV t) = true
  kwm : ∀ g x np ks pat C i, T.gn[g]? = some (x, none) → Γ.gv g = .cla C i → Γ.kwc g np ks = some pat → KwcOk CX P w K mg base lv C np ks pat i
  xfl : ∀ C f, Γ.xfl C f → XfC K C ∧ PySem.W.findIn K (.ref C) f = some none
  sub : ∀ C C' b, Γ.sub C C' = some b → ExcC K C ∧ PySem.W.kitOne K (.ref C) (.ref C') = some b ∧ PySem.W.exmOne K (.ref C) (.ref C') = some b
theorem GlobOkM.to {CX : CXT} {X : Cx} {lv : Nat} {x : Str} : ∀ {o : Option (Nat × Nat)} {g : GV}, GlobOkM CX X.prog X.w X.K X.mg X.base lv x o g → GlobOk CX X lv x o g
  | some (_, _), .fn _ _ _, h => h
  | none, .val _, h => h
  | none, .cls _, h => h
  | none, .err _ _ _, h => h
  | none, .cla _ _, h => h
  | some (_, _), .val _, h => h.elim
  | some (_, _), .cla _ _, h => h.elim
  | some (_, _), .cls _, h => h.elim
  | some (_, _), .err _ _ _, h => h.elim
  | none, .fn _ _ _, h => h.elim
theorem no_cx {P : Program} {w : World} : ∀ o H s e s', ¬ L2.CX P w o H s (fun _ _ _ => False) e s' := fun _ _ _ _ _ h => by
  obtain ⟨_, _, _, _, _, _, _, _, _, _, _, _, z⟩ := h
  exact z
section
variable {P : Program} {w : World} {K : PySem.W.Frag} {mg : Str → Option Value} {base : Heap} {T : Tb} {Γ : Gm} {lv : Nat}
theorem goodS_of (hcm : T.calm = true) (G : GM (L2.CX P w) P w K mg base T Γ lv) {qual : Str} {scope : Scope} {f : Addr} {cdv : Value} {A : Around} {outer : List PySem.Env} {s : Shared} {H : Hp} {E : XK}
    (hr : Room lv (A.deeper (envOfC qual scope s.heap.objs.size f cdv))) (nd : T.N.Nodup) (hs : scope = T.sc) :
    GoodS (L2.CX P w) (cxOf (L2.CX P w) P w K mg base T.N qual scope f cdv A outer s H E) T Γ (fun cls dd _ H => E cls dd H) lv where
  n := rfl
  nd := nd
  calm := fun _ => rfl
  sc := hs
  room := fun _ => hr
  hu := hr.units
  fn := fun _ _ => rfl
  xn := G.xn
  gcd := G.gcd
  glob := fun g x o h => GlobOkM.to (X := cxOf (L2.CX P w) P w K mg base T.N qual scope f cdv A outer s H E) (G.glob g x o h)
  fld := G.fld
  kwc := G.kwc
  mt := G.mt
  pr := G.pr
  isi := G.isi
  nf := G.nf
  kwm := G.kwm
  xfl := G.xfl
  sub := G.sub
  exn := fun z => absurd z (by rw [hcm]; decide)
  pass := passAt (takes_of rfl rfl rfl rfl)
  cx0 := no_cx
  own := passes_of rfl
  tk := takes_of rfl rfl rfl rfl
  hcx := rfl
  stk := rfl
  frm := rfl
/-- what a body promises -/
def bodyD (Γ : Gm) (n : Nat) (m : Sms) (ds : List D) (M : Mm) (E : EK) (Q : QD) : Prop :=
  evSs Γ m (ds.map some ++ List.replicate (n - ds.length) none) M { nx := fun _ M' => Q .non M', rt := Q, ex := fun x _ M' => E x M' }
theorem body_pure {X : Cx} {N : List Str} {n : Nat} {sp : DSp} {m : Sms} {vs : List V} {H : Hp} {Q : VK} {E : XK} (hp : ∀ ds M E Q, ds.length = n → sp ds M E Q → bodyD Γ N.length m ds M E Q) (h : liftSp K n sp vs H Q E) :
    liftSt K (fun cls dd _ H => E cls dd H) (evSs Γ m) { nx := fun _ H' => Q .non H', rt := Q } (start N vs) H := by
  obtain ⟨hl, ds, M, Ed, Qd, R, r, t, kq, kx⟩ := h
  have l := r.length
  refine ⟨_, M, _, ⟨RelE.start r, R⟩, hp ds M Ed Qd (by omega) t, ?_, ?_, ?_, ?_, ?_⟩
  · exact fun ρ' M' σ' H' e R' q => kq .non M' .non H' e R'.mem .non q
  · exact fun d M' v H' e R' r' q => kq d M' v H' e R' r' q
  · exact fun ρ' M' σ' H' e R' q => q.elim
  · exact fun ρ' M' σ' H' e R' q => q.elim
  · exact fun x ρ' M' σ' cls dd H' e R' rx q => kx x M' cls dd H' e R'.mem rx q
/-- THE RULE for a def -/
theorem fnD {x qual : Str} {st : Stmt} {f : Addr} {fd : FuncData} {ps : List Str} {n : Nat} {sp : DSp} {m : Sms} (G : GM (L2.CX P w) P w K mg base T Γ lv) (F : Fun K x qual st f fd) (S : FnScope T.N ps (defScope st)) (hn : ps.length = n) (hs : defScope st = T.sc)
    (hcm : T.calm = true) (hc : chkSs T m (defBody st) = true) (hp : ∀ ds M E Q, ds.length = n → sp ds M E Q → bodyD Γ T.N.length m ds M E Q) : FnOk P w K mg base (L2.CX P w) (lv + 1) f fd ps (liftSp K n sp) := by
  refine F.okX S (fun vs H Q E h => h.1.trans hn.symm) fun cdv A outer s H vs Q E hr h => ?_
  exact ⟨_, soundSs m (goodS_of hcm G hr S.nd hs) (defBody st) hc, body_pure (X := cxOf (L2.CX P w) P w K mg base T.N qual (defScope st) f cdv A outer s H E) hp h⟩
/-- the same with defaults -/
theorem fnDD {x qual : Str} {params : Arguments} {body : List Stmt} {scope : Scope} {dvs : List V} {f : Addr} {fd : FuncData} {ps : List Str} {n : Nat} {sp : DSp} {m : Sms} (G : GM (L2.CX P w) P w K mg base T Γ lv) (F : FunD K x qual params body scope dvs [] f fd) (S : FnScope T.N ps scope) (hn : ps.length = n) (hs : scope = T.sc)
    (hcm : T.calm = true) (hc : chkSs T m body = true) (hp : ∀ ds M E Q, ds.length = n → sp ds M E Q → bodyD Γ T.N.length m ds M E Q) : FnOk P w K mg base (L2.CX P w) (lv + 1) f fd ps (liftSp K n sp) := by
  refine F.ok S (fun vs H Q E h => h.1.trans hn.symm) fun cdv A outer s H vs Q E hr h => ?_
  exact ⟨_, soundSs m (goodS_of hcm G hr S.nd hs) body hc, body_pure (X := cxOf (L2.CX P w) P w K mg base T.N qual scope f cdv A outer s H E) hp h⟩
end
end DL
namespace DL
open PySem PySem.Spec L2
open PyProof.Rows (Fr)

/-! ### an own error's __init__: super().__init__(text), then its fields -/
/-- the context of a def that sees its class -/
def xcxOf (CX : CXT) (P : Program) (w : World) (K : PySem.W.Frag) (mg : Str → Option Value) (base : Heap) (N : List Str) (qual : Str) (scope : Scope) (f : Addr) (cd : Value) (cc : Addr) (A : Around) (outer : List PySem.Env) (s : Shared) (H : Hp) (E : XK) : Cx where
  prog := P
  w := w
  K := K
  mg := mg
  base := base
  A := A.deeper (PySem.W.ksEnv qual scope s.heap.objs.size f cd cc)
  N := N
  s_0 := s
  H_0 := H
  env := PySem.W.ksEnv qual scope s.heap.objs.size f cd cc
  outer := outer
  stack := PySem.W.ksEnv qual scope s.heap.objs.size f cd cc :: outer
  ex := []
  calm := true
  fn := fun _ => false
  pn := []
  xe := fun e s' => wpAny (model P w) (A.deeper (PySem.W.ksEnv qual scope s.heap.objs.size f cd cc)) (leaving (PySem.W.ksEnv qual scope s.heap.objs.size f cd cc) e) (fun _ s'' => CX outer H s E e s'') (fun e' s'' => CX outer H s E e' s'') s'
structure XScope (N ps : List Str) (sc : Scope) : Prop where
  kind : sc.kind = .function
  co : sc.isCoroutine = false
  gen : sc.isGenerator = false
  nd : N.Nodup
  pre : N.take ps.length = ps
  par : ∀ x ∈ ps, sc.names.lookup x = some .local
  nocell : ∀ y ∈ sc.names, y.2 ≠ .cell
  free : ∀ y ∈ sc.names, y.2 = .free → y.1 = "__class__"
section
variable {CX : CXT} {P : Program} {w : World} {K : PySem.W.Frag} {mg : Str → Option Value} {base : Heap} {N ps : List Str} {qual : Str} {scope : Scope} {f cc : Addr} {cd : Value} {A : Around} {outer : List PySem.Env} {s : Shared} {H : Hp} {E : XK} {us : List Value} {vs : List V}
theorem inv_startX {clo cco : Value} {ccd : Option Addr} {csl : Array (Option Value)} {D : Addr} (S : XScope N ps scope) (hd : A.handled = none) (e0 : Env0 P w K mg base A outer s H) (hl : vs.length = ps.length) (r : Vals vs us)
    (hcc : K.lookup cc = some ⟨cco, ccd, .cell (some (.ref D)), csl⟩) {h1 : Heap} {tk : Nat} (hns : h1.Ns s.heap.objs.size (fun x => (ps.zip us).reverse.lookup x)) (hk : ∀ b o, s.heap.get? b = some o → h1.get? b = some o) :
    Inv (xcxOf CX P w K mg base N qual scope f cd cc A outer s H E) [] (start N vs) H { s with heap := h1, toks := tk } := by
  have hpl : ps.length ≤ N.length := by have := congrArg List.length S.pre; rw [List.length_take] at this; omega
  have noA : ∀ b : Addr, b ∉ (xcxOf CX P w K mg base N qual scope f cd cc A outer s H E).ex := fun b z => absurd (show b ∈ ([] : List Addr) from z) (by simp)
  have ce : ∀ {y : Str} {c : Addr}, (xcxOf CX P w K mg base N qual scope f cd cc A outer s H E).env.cells.lookup y = some c → y = "__class__" ∧ c = cc := fun {y c} h => by
    have h : List.lookup y [(("__class__" : Str), cc)] = some c := h
    by_cases q : y = ("__class__" : Str)
    · subst q
      simp [List.lookup] at h
      exact ⟨rfl, h.symm⟩
    · simp [List.lookup, beq_eq_false_iff_ne.mpr q] at h
  have bcc := e0.bs _ _ (e0.mod.kin _ _ hcc)
  refine ⟨⟨e0.mod, S.kind, rfl, rfl, Nat.le_refl _, fun y z c h1 h2 => ?_, fun y hy => ?_, fun y c h _ => ?_, fun _ => hd, Around.frames_deeper e0.frames, .inr ⟨rfl, rfl⟩, fun b z => absurd z (noA b), e0.bs, e0.bsz, fun b _ _ => noA b, fun b z => absurd z (noA b), e0.funs, e0.frf⟩,
    rfl, e0.bare, Un.kept hk, ⟨_, hns, fun i y v h1 h2 h3 => ?_⟩, fun y c h => ?_, e0.hok.fresh (Nat.le_refl _), fun y c h => ?_, fun p hp => absurd (show p ∈ ([] : List (Addr × Obj)) from hp) (by simp), e0.hok.kept hk, ?_⟩
  · rw [(ce h1).1, (ce h2).1]
  · have hy : scope.names.lookup y = some .cell ∨ scope.names.lookup y = some .free := hy
    rcases hy with hy | hy
    · exact absurd rfl (S.nocell _ (PySem.mem_of_lookup hy))
    · have e := S.free _ (PySem.mem_of_lookup hy) rfl
      have e : y = "__class__" := e
      subst e
      exact ⟨cc, by show List.lookup ("__class__" : Str) [(("__class__" : Str), cc)] = some cc; simp [List.lookup]⟩
  · exact absurd h (by show false ≠ true; decide)
  · have hi : i < vs.length := by
      unfold L2.start at h2
      by_cases hi : i < vs.length
      · exact hi
      · rw [List.getElem?_append_right (by simpa using hi)] at h2
        rw [List.getElem?_replicate] at h2
        split at h2 <;> cases h2
    have ha : vs[i]? = some v := by
      unfold L2.start at h2
      rw [List.getElem?_append_left (by simpa using hi), List.getElem?_map] at h2
      cases e : vs[i]? with
      | none => rw [e] at h2; cases h2
      | some a => rw [e] at h2; cases h2; rfl
    obtain ⟨u, hu, rv⟩ := r.get ha
    have hp : ps[i]? = some y := by
      rw [← S.pre, List.getElem?_take_of_lt (by omega)]; exact h1
    have ndP : ps.Nodup := by rw [← S.pre]; exact S.nd.sublist (List.take_sublist _ _)
    exact ⟨u, rv, .inl ⟨S.par y (List.mem_of_getElem? hp), zip_rev ndP hp hu⟩⟩
  · obtain ⟨rfl, rfl⟩ := ce h
    exact ⟨_, _, hk _ _ bcc.1, rfl⟩
  · obtain ⟨rfl, rfl⟩ := ce h
    exact bcc.2
  · unfold L2.start
    show _ = N.length
    rw [List.length_append, List.length_map, List.length_replicate]
    omega
/-- THE RULE for such a def, by its body run at its own place -/
theorem fn_ofX {clo cco : Value} {ccd : Option Addr} {csl : Array (Option Value)} {D : Addr} {k : Nat} {name : Str} {params : Arguments} {body : List Stmt} {dV kV doc pm ct oc : Value} {an od : Option Addr} {osl : Array (Option Value)} {sp : Sp}
    (lk : K.lookup f = some ⟨oc, od, .func (PySem.W.ksFn name qual params body scope dV kV doc pm an cd ct cc), osl⟩) (hcd : PySem.W.codeIn K cd qual = true) (hcc : K.lookup cc = some ⟨cco, ccd, .cell (some (.ref D)), csl⟩) (S : XScope N ps scope)
    (len : ∀ vs H Q E, sp vs H Q E → vs.length = ps.length)
    (hbody : ∀ (A : Around) (outer : List PySem.Env) (s s1 : Shared) (H : Hp) (vs : List V) (Q : VK) (E : XK), Room k (A.deeper (PySem.W.ksEnv qual scope s.heap.objs.size f cd cc)) → sp vs H Q E → Inv (xcxOf CX P w K mg base N qual scope f cd cc A outer s H E) [] (start N vs) H s1 →
      PySem.wpAt (model P w) (A.deeper (PySem.W.ksEnv qual scope s.heap.objs.size f cd cc)) (.func body (PySem.W.ksEnv qual scope s.heap.objs.size f cd cc)) (execs body (PySem.W.ksEnv qual scope s.heap.objs.size f cd cc))
        (SP (xcxOf CX P w K mg base N qual scope f cd cc A outer s H E) [] { nx := fun _ H' => Q .non H', rt := Q }) (xcxOf CX P w K mg base N qual scope f cd cc A outer s H E).xe s1) :
    FnOk P w K mg base CX (k + 1) f (PySem.W.ksFn name qual params body scope dV kV doc pm an cd ct cc) ps sp := by
  refine ⟨len, fun A outer s H args us vs Q E hr e0 hb r hsp => ?_⟩
  have hl := len _ _ _ _ hsp
  have KX : K.In s.heap := e0.mod.kin.keeps fun b o e => (e0.bs b o e).1
  have lim : s.heap.NoLimit := e0.mod.nolimit.keeps fun b o e => (e0.bs b o e).1
  refine PySem.ks_codeAny_call_defAt (fd := PySem.W.ksFn name qual params body scope dV kV doc pm an cd ct cc) (body := body) (binds := ps.zip us) hr.depth (KX _ _ lk) rfl lim (PySem.W.codeRec_of KX hcd) rfl hb S.nocell (fun y hy => S.par _ (List.of_mem_zip hy).1) (fun h1 hns hk => ?_) S.co S.gen S.kind
  have I : Inv (xcxOf CX P w K mg base N qual scope f cd cc A outer s H E) [] (start N vs) H { s with heap := h1, toks := s.toks + (ps.zip us).length } := inv_startX (clo := clo) S hr.hd e0 hl r hcc hns hk
  refine PySem.ks_wpAt_mono (hbody A outer s _ H vs Q E (hr.deeper _) hsp I) (fun fl s' hs => ?_) fun e s' hs => hs
  have fin : ∀ {σ' : St} {H' : Hp} {v : V} {u : Value}, Inv (xcxOf CX P w K mg base N qual scope f cd cc A outer s H E) [] σ' H' s' → RelV v u → Q v H' → CE outer P w H s Q u s' :=
    fun {σ' H' v u} J rv q => ⟨v, H', J.os, J.bare, J.base, J.hok, rv, q⟩
  cases fl with
  | ret u =>
    obtain ⟨v, σ', H', J, rv, q⟩ := hs
    exact fin J rv q
  | next =>
    obtain ⟨σ', H', J, q⟩ := hs
    exact fin (v := V.non) (u := Value.none) J rfl q
  | brk =>
    obtain ⟨_, _, _, q⟩ := hs
    exact False.elim q
  | cont =>
    obtain ⟨_, _, _, q⟩ := hs
    exact False.elim q
end
end DL
namespace DL
open PySem PySem.Spec L2
open PyProof.Rows (Fr)

/-! ### ValueError.__init__ bound to an error that is being made -/
section
open PySem.W PySem.Calls PyProof.Rows
variable {prog : Program} {w : World} {A : Around} {E : Value → Shared → Prop} {h : Heap} {g : Array GenState} {d : Drawn} {t : Nat} {os : OsState}
variable {nm q : Str} {C N : Addr} {bs bm : List Value} {hdct : Bool} {sn : List Str} {sub : List Value} {ab : Bool} {col : Option Bool} {dd : Option Addr} {k0 k1 k2 k3 k5 : Option Value}
theorem call_bwV {u e t0 : Addr} {rest : List Value} {Q : Value → Shared → Prop}
    (hC : h.get? C = some (excClassObj nm q C N bs bm hdct sn sub ab col dd k0 k1 k2 k3 k5 "ValueError.__new__")) (he : h.get? e = some (HandSPX.excO C t0)) (hu : h.get? u = some (kxs_mw "ValueError.__init__" e)) (hrest : rest.length ≤ sizeLine)
    (hq : ∀ h' t1, (∀ b o, b ≠ e → h.get? b = some o → h'.get? b = some o) → h'.get? e = some (HandSPX.excO C t1) → Q .none ⟨h', g, d, t, os⟩) :
    wpAny (model prog w) A (call (.ref u) rest) Q E ⟨h, g, d, t, os⟩ := by
  refine wpAny_call (codeAny_of_tree ?_)
  show wpAny _ A.in1 (callAny (.ref u) ⟨rest, []⟩) _ _ _
  simp only [callAny]
  refine wpAny_bind (wpAny_load hu ?_)
  simp only [kxs_mw, show (Value.type "method-wrapper" == Value.type "method" || Value.type "method-wrapper" == Value.type "builtin_function_or_method" || Value.type "method-wrapper" == Value.type "method-wrapper") = true by decide, if_true]
  refine W.KFB.if_so (by decide) ?_
  refine wpAny_bind (ESX.check_bound F.excBase_ValueError hC he rfl ?_)
  refine wpAny_bind (wpAny_pure (wpAny_pure ?_))
  refine ⟨Code.quiet_builtin _ (by decide +kernel), codeAny_builtin F.excBase_ValueError.initEntry ?_⟩
  rw [Around.under_plainId F.excBase_ValueError.init.plain _]
  wp_walk
  refine hq _ h.objs.size (fun b o hb ho => ?_) ?_
  · rw [Heap.get?_update_other _ _ (Ne.symm hb)]
    exact Heap.get?_push_of_some _ ho
  · rw [Heap.get?_update_self _ (Heap.get?_push_of_some _ he) rfl]
    rfl
end
/-- what the text and the written part say of such a def and its class -/
structure SupT (P : Program) (K : PySem.W.Frag) (mg : Str → Option Value) (scope : Scope) (f cc : Addr) (cd : Value) (C : Addr) : Prop where
  fn : ∃ oc od fd osl ar, K.lookup f = some ⟨oc, od, .func fd, osl⟩ ∧ (fd.params.posonlyargs ++ fd.params.args).head? = some ar ∧ ar.arg = "self"
  code : ∃ cda ccl cdd vs ccs file tf, cd = .ref cda ∧ K.lookup cda = some ⟨ccl, cdd, .fields vs, ccs⟩ ∧ vs[2]? = some (.str file tf) ∧ ((P.main.file : Str) == file) = true
  cell : ∃ cl cld csl, K.lookup cc = some ⟨cl, cld, .cell (some (.ref C)), csl⟩
  cls : OexC K C
  self : PySem.W.mroIn K C (.ref C) = some true
  sup : mg "super" = none
  top : (P.main.scope.names.lookup ("super" : Str)).isSome = false
  ns : scope.names.lookup ("super" : Str) = some .globalImplicit
  nc : scope.names.lookup ("__class__" : Str) = some .free
  nl : scope.names.lookup ("self" : Str) = some .local
  any : PySem.W.nsIn K cStatics "thirdparty.any" = some none
  along : PySem.W.ks_superIn K C C "__init__" = some (some (.builtin "ValueError.__init__"))
  isv : PySem.W.subIn K (.ref C) (.type "ValueError") = some true
theorem boot_super : bootBuiltins "super" = some (.type "super") := by kernel_rfl
section
variable {CX : CXT} {P : Program} {w : World} {K : PySem.W.Frag} {mg : Str → Option Value} {base : Heap} {N : List Str} {qual : Str} {scope : Scope} {f cc : Addr} {cd : Value} {A : Around} {outer : List PySem.Env} {s0 : Shared} {H0 : Hp} {E : XK} {body : List Stmt}
/-- super().__init__(e) -/
theorem sup_at {C a : Addr} {pins : List (Addr × Obj)} {σ : St} {H : Hp} {s : Shared} {D : Ends} {e : Expr} {ta : TA} {p0 p1 p2 p3 p4 : Pos} (T : SupT P K mg scope f cc cd C) (hN : N[0]? = some ("self" : Str))
    (I : Inv (xcxOf CX P w K mg base N qual scope f cd cc A outer s0 H0 E) pins σ H s) (hs : σ[0]? = some (some (.ref a))) (ea : H a = some (exo a C none)) (ha : PA (xcxOf CX P w K mg base N qual scope f cd cc A outer s0 H0 E) [e] ta)
    (ht : ta σ H fun vs H1 => vs.length ≤ 1000 ∧ H1 a = some (exo a C none) ∧ D.nx σ H1)
    (hst : starEach (e :: []) (PySem.W.ksEnv qual scope s0.heap.objs.size f cd cc) = (false, eval e (PySem.W.ksEnv qual scope s0.heap.objs.size f cd cc)) :: starEach [] (PySem.W.ksEnv qual scope s0.heap.objs.size f cd cc))
    (hcl : ∃ pl : Sem Bool, eval (.Call (.Attribute (.Call (.Name "super" p0) [] [] p1) "__init__" p2) [e] [] p3) (PySem.W.ksEnv qual scope s0.heap.objs.size f cd cc) = (do
      let ov ← attributeBase (.Call (.Name "super" p0) [] [] p1) "__init__" (PySem.W.ksEnv qual scope s0.heap.objs.size f cd cc) (eval (.Call (.Name "super" p0) [] [] p1) (PySem.W.ksEnv qual scope s0.heap.objs.size f cd cc))
      standAt p2.atName
      let (fv, first) ← holding [ov] (getMethod ov "__init__" pl)
      callWith p3 fv first (backTo p3 (starEach [e] (PySem.W.ksEnv qual scope s0.heap.objs.size f cd cc))) [])) :
    PySem.wpAt (model P w) (A.deeper (PySem.W.ksEnv qual scope s0.heap.objs.size f cd cc)) (.func body (PySem.W.ksEnv qual scope s0.heap.objs.size f cd cc))
      (exec (.Expr (.Call (.Attribute (.Call (.Name "super" p0) [] [] p1) "__init__" p2) [e] [] p3) p4) (PySem.W.ksEnv qual scope s0.heap.objs.size f cd cc)) (SP (xcxOf CX P w K mg base N qual scope f cd cc A outer s0 H0 E) pins D) (xcxOf CX P w K mg base N qual scope f cd cc A outer s0 H0 E).xe s := by
  obtain ⟨oc, od, fd, osl, ar, lf, hpar, har⟩ := T.fn
  obtain ⟨cda, ccl, cdd, cvs, ccs, file, tf, rfl, lcd, hvs, hfile⟩ := T.code
  obtain ⟨cl, cld, csl, lcc⟩ := T.cell
  obtain ⟨nm, q, Nc, bs, bm, sn, sub, ab, col, dd, k0, k1, k2, k3, k5, hC, hbm⟩ := T.cls.cls
  have hcd : PySem.W.clsIn K C = some { name := nm, bases := bs, mro := .ref C :: bm, ns := Nc, qualname := q, hasDict := true, slotNames := sn, subclasses := sub, abstract := ab, collection := col, hasDel := false } := by unfold PySem.W.clsIn; rw [hC] <;> rfl
  obtain ⟨pl, hcl⟩ := hcl
  have KX := I.kIn
  obtain ⟨mb, b1, b2⟩ := I.mod.blt
  obtain ⟨m, hns, hlk⟩ := id I.loc
  obtain ⟨u0, ru0, lk0⟩ := hlk 0 "self" (.ref a) hN hs (.inl T.nl)
  have hu0 : u0 = Value.ref a := ru0
  subst hu0
  have hm0 : m "self" = some (.ref a) := by
    rcases lk0 with ⟨_, z⟩ | ⟨z, _⟩
    · exact z
    · have z : scope.names.lookup ("self" : Str) = some .cell ∨ scope.names.lookup ("self" : Str) = some .free := z
      rw [T.nl] at z
      rcases z with z | z <;> cases z
  obtain ⟨t1, ho⟩ := exo_at I.hok ea
  have hac : ∀ c, ({ cls := .ref C, dict := none, data := .fields #[.ref t1, .none, .none, .none, .bool false, .none] } : Obj).data ≠ .cls c := fun c z => by cases z
  refine PySem.ks_wpAt_Expr_any (PySem.ks_wpAt_MethodCall (pl := pl) ?_ hcl) ?_ ?_
  · refine PySem.ks_wpAt_super_base (vs := cvs) (file := file) (tf := tf) (env := PySem.W.ksEnv qual scope s0.heap.objs.size f (.ref cda) cc) T.ns T.nc (by decide) rfl (KX _ _ lf) rfl hpar rfl (KX _ _ lcd) rfl hvs hfile T.top ?_
    refine PySem.W.ks_loadName_global I.ok.kind T.ns (Calls.loadGlobal_builtin (env := PySem.W.ksEnv qual scope s0.heap.objs.size f (.ref cda) cc) (I.mod.glob.keeps I.bk) T.sup (b1.keeps I.bk) ((b2 "super" (by decide)).trans boot_super) ⟨rfl, ?_⟩)
    refine wpAny_loadName_free I.ok.kind T.nc (by show List.lookup ("__class__" : Str) [(("__class__" : Str), cc)] = some cc; simp [List.lookup]) ⟨_, KX _ _ lcc, rfl⟩ ?_
    rw [har]
    refine wpAny_loadName_local I.ok.kind T.nl hns hm0 ?_
    refine PySem.ks_wpAny_isType_cls (KX _ _ hC) rfl ⟨rfl, ?_⟩
    obtain ⟨hp, g, d, tk, os⟩ := s
    refine PySem.ks_wpAny_call_super (KX _ _ hC) rfl ho rfl hac (PySem.W.looks_mroIn KX T.self) (fun h1 hso k1 => ?_)
    have I1 := I.kept (t' := tk) k1
    have KX1 := I1.kIn
    have ho1 := k1 _ _ ho
    have J1 : PySem.W.InstAt h1 a { cls := .ref C, dict := none, data := .fields #[.ref t1, .none, .none, .none, .bool false, .none] } C none := ⟨ho1, rfl, rfl, trivial⟩
    have hne : a ≠ C := PySem.W.ks_ne KX1 J1 hcd
    have hal := T.along
    unfold PySem.W.ks_superIn at hal
    rw [hcd] at hal
    refine PySem.W.kxs_getMethod PySem.W.kxs_ValueError hso (PySem.W.looks_opaque KX1 T.any) (l₀ := .ref C :: bm) ((PySem.W.looks_clsIn KX1 hcd).andThen .now) rfl KX1 hal (J1.type.andThen (PySem.W.looks_subIn KX1 T.isv)) hne (by decide) ?_
    have k2 : ∀ b o, h1.get? b = some o → (h1.push (PySem.W.kxs_mw "ValueError.__init__" a)).get? b = some o := fun b o z => Heap.get?_push_of_some _ z
    have hu : (h1.push (PySem.W.kxs_mw "ValueError.__init__" a)).get? h1.objs.size = some (PySem.W.kxs_mw "ValueError.__init__" a) := Heap.get?_push_at rfl rfl
    have I2 := I1.kept (t' := tk + 1) k2
    have I3 : Inv (xcxOf CX P w K mg base N qual scope f (.ref cda) cc A outer s0 H0 E) (pins ++ [(h1.objs.size, PySem.W.kxs_mw "ValueError.__init__" a)]) σ H ⟨h1.push (PySem.W.kxs_mw "ValueError.__init__" a), g, d, tk + 1, os⟩ := I2.pins_of fun p hp => by
      rcases List.mem_append.mp hp with hp | hp
      · exact I2.pin p (List.mem_append_right _ hp)
      · have e : p = (h1.objs.size, PySem.W.kxs_mw "ValueError.__init__" a) := by simpa using hp
        subst e
        exact ⟨hu, I1.hok.fresh (Nat.le_refl _), fun z => absurd I1.lt (by show ¬ _ < h1.objs.size; rw [show h1.objs.size = _ from z]; exact Nat.lt_irrefl _), I1.nofs (Nat.le_refl _), fun v z => by cases z⟩
    have ap := ha.run p3 _ _ σ H _ I3 ht
    rw [show starEach [e] (xcxOf CX P w K mg base N qual scope f (.ref cda) cc A outer s0 H0 E).env = _ from hst] at ap
    rw [hst]
    refine PySem.W.kxs_callWith (i := "ValueError.__init__") (x := a) (by rfl) (Calls.evalArgs_plain (wpAny_mono ap (fun us s2 hh => ?_) fun _ _ z => z))
    obtain ⟨vs, H1, J2, rv, hlen, ea2, hnx⟩ := hh
    have hpu := (J2.pin (h1.objs.size, PySem.W.kxs_mw "ValueError.__init__" a) (List.mem_append_right _ (List.mem_append_right _ List.mem_cons_self))).1
    refine ⟨hpu, ?_⟩
    obtain ⟨t2, ho2⟩ := exo_at J2.hok ea2
    have KX2 := J2.kIn
    obtain ⟨h2, g2, d2, tk2, os2⟩ := s2
    have hlen' : us.length ≤ sizeLine := by
      rw [← Paired.length rv, sizeLine_eq]
      omega
    refine call_bwV (KX2 _ _ hC) ho2 hpu hlen' fun h3 t3 k3 hx3 => ?_
    have J3 := J2.write (t' := tk2) (x := a) (e := a) (o := exo a C none) (by rw [ea2]; exact True.intro) (.inl rfl) k3 ⟨_, hx3⟩ (exo_ok hx3)
    have eu : upd H1 a (exo a C none) = H1 := by
      funext b
      by_cases hb : b = a
      · rw [hb, upd_same, ea2]
      · rw [upd_ne hb]
    rw [eu] at J3
    exact ⟨σ, H1, J3.unpinned, hnx⟩
  · simp [interactive, show scope.kind = .function from I.ok.kind]
  · rfl
end
end DL
namespace DL
open PySem PySem.Spec L2

/-! ### an own error's class from its text -/
def chkPart (N : List Str) (sc : Scope) (tx : List Nat) : Expr → Bool
  | .Constant (.str y) _ _ => decide (y.length ≤ 1000)
  | .FormattedValue (.Name x _) c none _ => decide (c = -1) && tx.any (fun i => decide (N[i + 1]? = some x)) && decide (sc.names.lookup x = some .local) && plainN x
  | _ => false
def chkTx (N : List Str) (sc : Scope) (tx : List Nat) : Expr → Bool
  | .Constant (.str _) _ _ => true
  | .JoinedStr (v1 :: v2 :: rest) _ => decide (rest.length ≤ 8) && (v1 :: v2 :: rest).all (chkPart N sc tx)
  | _ => false
def chkFs (sc : Scope) : List Str → List Stmt → Bool
  | [], [] => true
  | f :: fs, .Assign [.Attribute (.Name s _) f' _] (.Name x _) _ :: r => decide (s = ("self" : Str)) && decide (f = f') && decide (x = f) && decide (sc.names.lookup f = some .local) && plainN f && chkFs sc fs r
  | _, _ => false
def chkBody (sc : Scope) (fs : List Str) (tx : List Nat) : List Stmt → Bool
  | .Expr (.Call (.Attribute (.Call (.Name s _) [] [] _) i p2) [e] [] p3) _ :: r => (p2.endLine == p3.line) && decide (s = ("super" : Str)) && decide (i = ("__init__" : Str)) && chkTx ("self" :: fs) sc tx e && chkFs sc fs r
  | _ => false
theorem cf_of {o e : Expr} {nm : Str} {p2 p3 : Pos} (env : PySem.Env) (hl : (p2.endLine == p3.line) = true) (hs : starEach [e] env = [(false, eval e env)]) : ∃ pl : Sem Bool, eval (.Call (.Attribute o nm p2) [e] [] p3) env = (do
      let ov ← attributeBase o nm env (eval o env)
      standAt p2.atName
      let (fv, first) ← holding [ov] (getMethod ov nm pl)
      callWith p3 fv first (backTo p3 (starEach [e] env)) []) := by
  have h1 : eval (.Call (.Attribute o nm p2) [e] [] p3) env = (do
      let ov ← attributeBase o nm env (eval o env)
      standAt p2.atName
      methodCall o nm p2 p3 env ov ([e].length + ([] : List Keyword).length) (backTo p3 (starEach [e] env)) (backToKw p3 (keywordEach [] env))) := by
    first | rfl | simp only [eval]
  have hf : methodCallForm ([e].length + ([] : List Keyword).length) (backTo p3 (starEach [e] env)) (backToKw p3 (keywordEach [] env)) = true := by
    rw [hs]; rfl
  refine ⟨(do return (← importBound o env).getD true), ?_⟩
  rw [h1]
  unfold methodCall calleeOf methodCallPos
  rw [hf]
  simp only [Bool.not_true, Bool.false_or, hl, if_true, pure_bind]
  rfl
section
variable {X : Cx}
def TxOk (tx : List Nat) (σ : St) : Prop := ∀ i ∈ tx, ∃ v, σ[i + 1]? = some (some v) ∧ TxtV v
theorem part_ok {N : List Str} {sc : Scope} {tx : List Nat} (hN : X.N = N) (hs : X.env.scope = sc) {e : Expr} (h : chkPart N sc tx e = true) (nd : N.Nodup) :
    ∃ te : TE, PE X e te ∧ ∀ σ H (R : V → Hp → Prop), TxOk tx σ → (∀ y : Str, y.length ≤ 1921 → R (.str y) H) → te σ H R := by
  cases e <;> try (simp [chkPart] at h; done)
  case Constant c k p =>
    cases c <;> try (simp [chkPart] at h; done)
    rename_i y
    simp only [chkPart, decide_eq_true_eq] at h
    exact ⟨_, pe_str, fun σ H R _ k => k y (by omega)⟩
  case FormattedValue x c sp p =>
    cases x <;> try (simp [chkPart] at h; done)
    cases sp <;> try (simp [chkPart] at h; done)
    rename_i x px
    simp only [chkPart, Bool.and_eq_true, decide_eq_true_eq] at h
    obtain ⟨⟨⟨rfl, hx⟩, hl⟩, hp⟩ := h
    obtain ⟨i, hi, hx⟩ := List.any_eq_true.mp hx
    have hx : N[i + 1]? = some x := by simpa using hx
    obtain ⟨p1, p2, _⟩ := plainN_ok hp
    refine ⟨_, pe_fmt (pe_var (i := i + 1) (by rw [hN]; exact hx) (.inl (by rw [hs]; exact hl)) p1 p2), fun σ H R ht k => ?_⟩
    obtain ⟨v, hv, tv⟩ := ht i hi
    refine ⟨v, hv, ?_⟩
    cases v <;> try (exact tv.elim)
    · rename_i j
      exact .inr ⟨j, rfl, tv, k _ (PyProof.Rows.int_text_len_1921 tv)⟩
    · rename_i y
      have ty : y.length ≤ 1000 := tv
      exact .inl ⟨y, rfl, by rw [sizeLine_eq]; omega, k y (by omega)⟩
theorem parts_ok {N : List Str} {sc : Scope} {tx : List Nat} (hN : X.N = N) (hs : X.env.scope = sc) (nd : N.Nodup) : ∀ {es : List Expr}, es.all (chkPart N sc tx) = true →
    ∃ ts, PJ X es ts ∧ ∀ σ H, TxOk tx σ → ∀ acc Q, acc.length + 1921 * es.length ≤ sizeLine → (∀ out, Q out H) → tJs ts acc σ H Q
  | [], _ => ⟨[], .nil, fun _ _ _ _ _ _ k => k _⟩
  | e :: es, h => by
    simp only [List.all_cons, Bool.and_eq_true] at h
    obtain ⟨te, he, k1⟩ := part_ok hN hs h.1 nd
    obtain ⟨ts, hes, k2⟩ := parts_ok hN hs nd h.2
    refine ⟨te :: ts, .cons he hes, fun σ H ht acc Q hl k => k1 σ H _ ht fun y hy => ⟨y, rfl, ?_, ?_⟩⟩
    · rw [PySem.Str.length_append]; simp only [List.length_cons] at hl; omega
    · refine k2 σ H ht _ Q ?_ k
      rw [PySem.Str.length_append]; simp only [List.length_cons] at hl; omega
theorem tx_ok {N : List Str} {sc : Scope} {tx : List Nat} (hN : X.N = N) (hs : X.env.scope = sc) (nd : N.Nodup) {e : Expr} (h : chkTx N sc tx e = true) :
    ∃ ta : TA, PA X [e] ta ∧ ∀ σ H Q, TxOk tx σ → (∀ out, Q [V.str out] H) → ta σ H Q := by
  cases e <;> try (simp [chkTx] at h; done)
  case Constant c k p =>
    cases c <;> try (simp [chkTx] at h; done)
    exact ⟨_, pa_cons pe_str pa_nil, fun σ H Q _ k => k _⟩
  case JoinedStr es p =>
    match es, h with
    | v1 :: v2 :: rest, h =>
      simp only [chkTx, Bool.and_eq_true, decide_eq_true_eq] at h
      obtain ⟨ts, hj, k⟩ := parts_ok hN hs nd h.2
      refine ⟨_, pa_cons (pe_joined hj) pa_nil, fun σ H Q ht kq => k σ H ht Str.empty _ ?_ fun out => kq out⟩
      have e0 : Str.empty.length = 0 := rfl
      rw [e0, sizeLine_eq]
      simp only [List.length_cons]
      omega
    | [], h => simp [chkTx] at h
    | [_], h => simp [chkTx] at h
/-- self.f = f, .., the dict being there -/
theorem more_ok {N : List Str} {sc : Scope} {K : PySem.W.Frag} {C : Addr} (hN : X.N = N) (hs : X.env.scope = sc) (hK : X.K = K) (T : OexC K C) (h0 : N[0]? = some ("self" : Str)) (hl : sc.names.lookup ("self" : Str) = some .local) : ∀ {fs : List Str} {ss : List Stmt} {ks : List Nat}, chkFs sc fs ss = true →
    (∀ f ∈ fs, PySem.W.findIn K (.ref C) f = some none) → ks.length = fs.length → (∀ (j : Nat) f, fs[j]? = some f → ∃ k, ks[j]? = some k ∧ N[k]? = some f) →
    ∃ t : TS, PSs X ss t ∧ ∀ (σ : St) H D a dx (don : List (Str × V)) (ws : List V), σ[0]? = some (some (.ref a)) → ws.length = fs.length → (∀ (j : Nat) (k : Nat), ks[j]? = some k → ∃ v, ws[j]? = some v ∧ σ[k]? = some (some v)) → H a = some (exo a C (some dx)) → H dx = some (exd dx don) → dx ≠ a → don.length + fs.length ≤ 900 →
      (∀ H', H' a = some (exo a C (some dx)) → H' dx = some (exd dx ((fs.zip ws).reverse ++ don)) → (∀ b, b ≠ a → b ≠ dx → H' b = H b) → D.nx σ H') → t D σ H
  | [], [], ks, _, _, _, _ => ⟨_, pss_nil, fun σ H D a dx don ws _ hw _ ha hd _ _ k => k H ha (by simpa using hd) fun _ _ _ => rfl⟩
  | [], _ :: _, _, h, _, _, _ => by simp [chkFs] at h
  | f :: fs, [], _, h, _, _, _ => by simp [chkFs] at h
  | f :: fs, s :: ss, ks, h, hno, hkl, hks => by
    cases s <;> try (simp [chkFs] at h; done)
    rename_i tg v pos
    match tg, v, h with
    | [.Attribute (.Name s sp) f' fp], .Name x xp, h =>
      simp only [chkFs, Bool.and_eq_true, decide_eq_true_eq] at h
      obtain ⟨⟨⟨⟨⟨rfl, rfl⟩, rfl⟩, hx⟩, hp⟩, hr⟩ := h
      obtain ⟨p1, p2, _⟩ := plainN_ok hp
      cases ks with
      | nil => simp at hkl
      | cons k0 ks =>
        obtain ⟨k0', e0, hk0⟩ := hks 0 x rfl
        simp at e0
        subst e0
        obtain ⟨t, ht, kt⟩ := more_ok hN hs hK T h0 hl hr (fun f hf => hno f (List.mem_cons_of_mem _ hf)) (by simpa using hkl) (fun j f hj => by
          obtain ⟨k, a, b⟩ := hks (j + 1) f (by simpa using hj)
          exact ⟨k, by simpa using a, b⟩)
        refine ⟨_, pss_cons (ps_ost (pe_var (i := 0) (by rw [hN]; exact h0) (.inl (by rw [hs]; exact hl)) (by decide) (by decide)) (pe_var (i := k0) (by rw [hN]; exact hk0) (.inl (by rw [hs]; exact hx)) p1 p2) (by rfl)) ht, fun σ H D a dx don ws hσ hw hks' ha hd hda hlen k => ?_⟩
        obtain ⟨v, hv, hσv⟩ := hks' 0 k0 rfl
        cases ws with
        | nil => simp at hw
        | cons w ws =>
          simp at hv
          subst hv
          refine ⟨w, hσv, .ref a, hσ, a, C, rfl, by rw [hK]; exact T, by rw [hK]; exact hno x List.mem_cons_self, .inr ⟨dx, don, ha, hd, by simp only [List.length_cons] at hlen; omega, ?_⟩⟩
          refine kt σ _ D a dx ((x, w) :: don) ws hσ (by simpa using hw) (fun j k hj => ?_) (by rw [upd_ne (Ne.symm hda)]; exact ha) upd_same hda (by simp only [List.length_cons] at hlen ⊢; omega) fun H' h1 h2 h3 => k H' h1 ?_ ?_
          · obtain ⟨v, a1, a2⟩ := hks' (j + 1) k (by simpa using hj)
            exact ⟨v, by simpa using a1, a2⟩
          · rw [h2]; simp [List.zip_cons_cons, List.reverse_cons, List.append_assoc]
          · intro b hb hb2
            rw [h3 b hb hb2, upd_ne hb2]
/-- self.f = f, .. from the first on -/
theorem fields_ok {N : List Str} {sc : Scope} {K : PySem.W.Frag} {C : Addr} (hN : X.N = N) (hs : X.env.scope = sc) (hK : X.K = K) (T : OexC K C) (h0 : N[0]? = some ("self" : Str)) (hl : sc.names.lookup ("self" : Str) = some .local) {fs : List Str} {ss : List Stmt} (h : chkFs sc fs ss = true)
    (hno : ∀ f ∈ fs, PySem.W.findIn K (.ref C) f = some none) (hN2 : N = ("self" : Str) :: fs) (hfew : fs.length ≤ 9) :
    ∃ t : TS, PSs X ss t ∧ ∀ (σ : St) H D a (ws : List V), σ = some (.ref a) :: ws.map some → ws.length = fs.length → H a = some (exo a C none) →
      ((fs = [] ∧ D.nx σ H) ∨ (fs ≠ [] ∧ ∀ dx H', H dx = none → dx ≠ a → H' a = some (exo a C (some dx)) → H' dx = some (exd dx (fs.zip ws).reverse) → (∀ b, b ≠ a → b ≠ dx → H' b = H b) → D.nx σ H')) → t D σ H := by
  cases fs with
  | nil =>
    cases ss with
    | cons _ _ => simp [chkFs] at h
    | nil =>
      refine ⟨_, pss_nil, fun σ H D a ws hσ hw ha k => ?_⟩
      rcases k with ⟨_, k⟩ | ⟨k, _⟩
      · exact k
      · exact absurd rfl k
  | cons f fs =>
    cases ss with
    | nil => simp [chkFs] at h
    | cons s ss =>
      cases s <;> try (simp [chkFs] at h; done)
      rename_i tg v pos
      match tg, v, h with
      | [.Attribute (.Name s sp) f' fp], .Name x xp, h =>
        simp only [chkFs, Bool.and_eq_true, decide_eq_true_eq] at h
        obtain ⟨⟨⟨⟨⟨rfl, rfl⟩, rfl⟩, hx⟩, hp⟩, hr⟩ := h
        obtain ⟨p1, p2, _⟩ := plainN_ok hp
        obtain ⟨t, ht, kt⟩ := more_ok (ks := (List.range fs.length).map fun j => j + 2) hN hs hK T h0 hl hr (fun f hf => hno f (List.mem_cons_of_mem _ hf)) (by simp) (fun j f hj => by
          have hlt : j < fs.length := (List.getElem?_eq_some_iff.mp hj).1
          exact ⟨j + 2, by simp [hlt], by rw [hN2]; simpa using hj⟩)
        refine ⟨_, pss_cons (ps_ost (pe_var (i := 0) (by rw [hN]; exact h0) (.inl (by rw [hs]; exact hl)) (by decide) (by decide)) (pe_var (i := 1) (by rw [hN, hN2]; rfl) (.inl (by rw [hs]; exact hx)) p1 p2) (by rfl)) ht, fun σ H D a ws hσ hw ha k => ?_⟩
        rcases k with ⟨k, _⟩ | ⟨_, k⟩
        · cases k
        cases ws with
        | nil => simp at hw
        | cons w ws =>
          subst hσ
          have hw' : ws.length = fs.length := by simpa using hw
          refine ⟨w, rfl, .ref a, rfl, a, C, rfl, by rw [hK]; exact T, by rw [hK]; exact hno x List.mem_cons_self, .inl ⟨ha, fun dx hdx hda => ?_⟩⟩
          refine kt _ _ D a dx [(x, w)] ws rfl hw' (fun j k hj => ?_) upd_same (by rw [upd_ne hda]; exact upd_same) hda (by simp only [List.length_cons] at hfew ⊢; simp; omega) fun H' h1 h2 h3 => k dx H' hdx hda h1 ?_ ?_
          · rw [List.getElem?_map] at hj
            by_cases hlt : j < fs.length
            · simp [hlt] at hj
              subst hj
              have hlt' : j < ws.length := by omega
              exact ⟨ws[j], by simp [hlt'], by simp [hlt']⟩
            · simp [hlt] at hj
          · rw [h2]; simp [List.zip_cons_cons, List.reverse_cons]
          · intro b hb hb2
            rw [h3 b hb hb2, upd_ne hb, upd_ne hb2]
end
section
variable {CX : CXT} {P : Program} {w : World} {K : PySem.W.Frag} {mg : Str → Option Value} {base : Heap} {qual name : Str} {scope : Scope} {f cc C : Addr} {cd : Value} {params : Arguments} {body : List Stmt} {dV kV doc pm ct oc : Value} {an od : Option Addr} {osl : Array (Option Value)} {fs : List Str} {tx : List Nat}
/-- THE RULE for an own error's __init__ -/
theorem init_ok (T : SupT P K mg scope f cc cd C) (lk : K.lookup f = some ⟨oc, od, .func (PySem.W.ksFn name qual params body scope dV kV doc pm an cd ct cc), osl⟩) (hcd : PySem.W.codeIn K cd qual = true) (S : XScope ("self" :: fs) ("self" :: fs) scope)
    (hb : chkBody scope fs tx body = true) (hno : ∀ f ∈ fs, PySem.W.findIn K (.ref C) f = some none) (hfew : fs.length ≤ 9) (k : Nat) :
    FnOk P w K mg base CX (k + 1) f (PySem.W.ksFn name qual params body scope dV kV doc pm an cd ct cc) ("self" :: fs) (spInit C fs tx) := by
  obtain ⟨cl, cld, csl, lcc⟩ := T.cell
  refine fn_ofX (clo := .none) (N := "self" :: fs) lk hcd lcc S (fun vs H Q E h => ?_) fun A outer s s1 H vs Q E hr hsp I => ?_
  · obtain ⟨a, ws, rfl, hl, _⟩ := h
    simp [hl]
  · obtain ⟨a, ws, rfl, hl, ha, htx, hq⟩ := hsp
    have hst : start ("self" :: fs) (V.ref a :: ws) = some (.ref a) :: ws.map some := by
      unfold L2.start
      simp [hl]
    cases body with
    | nil => simp [chkBody] at hb
    | cons s0 rest =>
      cases s0 <;> try (simp [chkBody] at hb; done)
      rename_i ex epos
      match ex, hb, lk, I, hr with
      | .Call (.Attribute (.Call (.Name sn p0) [] [] p1) iname p2) [e] [] p3, hb, lk, I, hr =>
        simp only [chkBody, Bool.and_eq_true, decide_eq_true_eq] at hb
        obtain ⟨⟨⟨⟨hline, rfl⟩, rfl⟩, ht⟩, hf⟩ := hb
        have hse : ∀ env, starEach (e :: []) env = (false, eval e env) :: starEach [] env := fun env => by
          cases e <;> first | rfl | (simp [chkTx] at ht)
        obtain ⟨ta, hta, kta⟩ := tx_ok (X := xcxOf CX P w K mg base ("self" :: fs) qual scope f cd cc A outer s H E) (N := "self" :: fs) rfl rfl S.nd ht
        obtain ⟨tf, htf, ktf⟩ := fields_ok (X := xcxOf CX P w K mg base ("self" :: fs) qual scope f cd cc A outer s H E) (N := "self" :: fs) rfl rfl rfl T.cls rfl T.nl hf hno rfl hfew
        have hx : TxOk tx (start ("self" :: fs) (V.ref a :: ws)) := fun i hi => by
          obtain ⟨v, hv, tv⟩ := htx i hi
          exact ⟨v, by rw [hst]; simp [hv], tv⟩
        refine PySem.ks_wpAt_execs_cons (PySem.ks_wpAt_mono (sup_at (D := { nx := fun σ' H' => σ' = start ("self" :: fs) (V.ref a :: ws) ∧ H' = H, rt := fun _ _ => False }) T rfl I (by rw [hst]; rfl) ha hta (kta _ _ _ hx fun out => ⟨by simp, ha, rfl, rfl⟩) ?_ ?_) (fun fl s' hsp => ?_) (fun _ _ z => z))
        · exact hse _
        · exact cf_of _ hline (hse _)
        · cases fl with
          | next =>
            obtain ⟨σ', H', J, rfl, rfl⟩ := hsp
            refine PySem.wpAt_of_wpAny (htf.run [] s' _ _ _ J (ktf _ _ _ a ws hst hl ha ?_))
            exact hq
          | ret u =>
            obtain ⟨_, _, _, _, _, q⟩ := hsp
            exact q.elim
          | brk =>
            obtain ⟨_, _, _, q⟩ := hsp
            exact q.elim
          | cont =>
            obtain ⟨_, _, _, q⟩ := hsp
            exact q.elim
end
end DL
namespace DL
open PySem PySem.Spec L2

/-! ### what the module knows grows def by def -/
section
variable {CX : CXT} {P : Program} {w : World} {K : PySem.W.Frag} {mg : Str → Option Value} {base : Heap} {T : Tb} {Γ : Gm} {lv lv' : Nat}
theorem ErrOk.mono {C : Addr} {fs : List Str} {tx : List Nat} (h : ErrOk CX P w K mg base lv C fs tx) (hl : lv ≤ lv') : ErrOk CX P w K mg base lv' C fs tx :=
  ⟨h.oex, h.nd, h.few, by obtain ⟨k, fI, fd, ps, hk, a⟩ := h.made; exact ⟨k, fI, fd, ps, Nat.le_trans hk hl, a⟩⟩
theorem ClaOk.mono (hl : lv ≤ lv') {C : Addr} : ∀ {i : Option (Nat × DSp × List D)}, ClaOk CX P w K mg base lv C i → ClaOk CX P w K mg base lv' C i
  | none, h => h
  | some (n, sp, dfl), h => by
    obtain ⟨k, f, fd, ps, hk, r⟩ := h
    exact ⟨k, f, fd, ps, Nat.le_trans hk hl, r⟩
theorem KwcOk.mono (hl : lv ≤ lv') {C : Addr} {np : Nat} {ks : List Str} {pat : List (Sum Nat D)} : ∀ {i : Option (Nat × DSp × List D)}, KwcOk CX P w K mg base lv C np ks pat i → KwcOk CX P w K mg base lv' C np ks pat i
  | none, h => h
  | some (n, sp, dfl), h => by
    obtain ⟨k, f, fd, ps, gg, gV, hk, r⟩ := h
    exact ⟨k, f, fd, ps, gg, gV, Nat.le_trans hk hl, r⟩
theorem MtOk.mono (hl : lv ≤ lv') {C : Addr} {m : Str} {n : Nat} {sp : DSp} {dfl : List D} (h : MtOk CX P w K mg base lv C m n sp dfl) : MtOk CX P w K mg base lv' C m n sp dfl := by
  obtain ⟨k, f, fd, ps, hk, r⟩ := h
  exact ⟨k, f, fd, ps, Nat.le_trans hk hl, r⟩
theorem PrOk.mono (hl : lv ≤ lv') {C : Addr} {f : Str} {sp : DSp} (h : PrOk CX P w K mg base lv C f sp) : PrOk CX P w K mg base lv' C f sp := by
  obtain ⟨k, p, g, fd, ps, hk, r⟩ := h
  exact ⟨k, p, g, fd, ps, Nat.le_trans hk hl, r⟩
theorem GlobOkM.mono (hl : lv ≤ lv') {x : Str} : ∀ {o : Option (Nat × Nat)} {g : GV}, GlobOkM CX P w K mg base lv x o g → GlobOkM CX P w K mg base lv' x o g
  | some (n, k), .fn n' sp dfl, h => by
    obtain ⟨a, b, f, fd, ps, F, r⟩ := h
    exact ⟨a, b, f, fd, ps, F.mono hl, r⟩
  | none, .val d, h => h
  | none, .cls C, h => h
  | none, .err C fs tx, h => ⟨h.1, h.2.mono hl⟩
  | none, .cla C i, h => ⟨h.1, h.2.mono hl⟩
  | some (_, _), .cla _ _, h => h.elim
  | some (_, _), .val _, h => h.elim
  | some (_, _), .cls _, h => h.elim
  | some (_, _), .err _ _ _, h => h.elim
  | none, .fn _ _ _, h => h.elim
theorem KwOk.mono (hl : lv ≤ lv') {x : Str} {n' : Nat} {sp : DSp} {np : Nat} {ks : List Str} {pat : List (Sum Nat D)} (h : KwOk CX P w K mg base lv x n' sp np ks pat) : KwOk CX P w K mg base lv' x n' sp np ks pat := by
  obtain ⟨f, fd, ps, gg, gV, F, r⟩ := h
  exact ⟨f, fd, ps, gg, gV, F.mono hl, r⟩
theorem GM.mono (G : GM CX P w K mg base T Γ lv) (hl : lv ≤ lv') : GM CX P w K mg base T Γ lv' :=
  { xn := G.xn, gcd := G.gcd, glob := fun g x o h => (G.glob g x o h).mono hl, fld := G.fld, xfl := G.xfl, sub := G.sub, mt := fun g C m n sp dfl h1 h => (G.mt g C m n sp dfl h1 h).mono hl, pr := fun g C f sp h1 h => (G.pr g C f sp h1 h).mono hl, isi := G.isi, nf := G.nf, kwm := fun g x np ks pat C i h1 h2 h3 => (G.kwm g x np ks pat C i h1 h2 h3).mono hl, kwc := fun g x nk np ks pat n' sp dfl h1 h2 h3 => (G.kwc g x nk np ks pat n' sp dfl h1 h2 h3).mono hl }
/-- the same of a table with other slots -/
theorem GM.tb (G : GM CX P w K mg base T Γ lv) {T' : Tb} (h1 : T'.gn = T.gn) (h2 : T'.xn = T.xn) (h3 : T'.gcd = T.gcd) : GM CX P w K mg base T' Γ lv :=
  { xn := by rw [h2]; exact G.xn, gcd := by rw [h3]; exact G.gcd, glob := by rw [h1]; exact G.glob, fld := G.fld, xfl := G.xfl, sub := G.sub, mt := G.mt, pr := G.pr, isi := G.isi, nf := G.nf, kwm := by rw [h1]; exact G.kwm, kwc := by rw [h1]; exact G.kwc }
def Gm.put (Γ : Gm) (g : Nat) (v : GV) : Gm := { Γ with gv := fun i => if i = g then v else Γ.gv i }
/-- a def's place: all but its promise -/
structure FnG (K : PySem.W.Frag) (mg : Str → Option Value) (x : Str) (n k : Nat) (dfl : List D) (f : Addr) (fd : FuncData) (ps : List Str) : Prop where
  m : mg x = some (.ref f)
  kp : PySem.W.keepIn K (.ref f) = true
  len : ps.length = n
  dl : dfl.length = k
  bd : ∀ j, j ≤ k → ∃ dvs ds, Binds K fd ps ds ∧ Vals dvs ds ∧ ∀ H, Reps K H (dfl.drop (k - j)) dvs
theorem FnG.glob {x : Str} {n k : Nat} {dfl : List D} {f : Addr} {fd : FuncData} {ps : List Str} (h : FnG K mg x n k dfl f fd ps) {sp : DSp} (F : FnOk P w K mg base CX lv f fd ps (liftSp K n sp)) : GlobOkM CX P w K mg base lv x (some (n, k)) (.fn n sp dfl) :=
  ⟨rfl, h.dl, f, fd, ps, F, h.m, h.kp, h.len, h.bd⟩
def spNo : DSp := fun _ _ _ _ => False
theorem fnNo {f : Addr} {fd : FuncData} {ps : List Str} {n : Nat} : FnOk P w K mg base CX lv f fd ps (liftSp K n spNo) :=
  ⟨fun vs H Q E ⟨_, _, _, _, _, _, _, z, _⟩ => z.elim, fun A outer s H args us vs Q E hr he hb hv ⟨_, _, _, _, _, _, _, z, _⟩ => z.elim⟩
theorem GM.step (G : GM CX P w K mg base T Γ lv) (hl : lv ≤ lv') {g : Nat} {x : Str} {n k : Nat} {sp : DSp} {dfl : List D} (hg : T.gn[g]? = some (x, some (n, k))) (h : GlobOkM CX P w K mg base lv' x (some (n, k)) (.fn n sp dfl))
    (hk : ∀ np ks pat, Γ.kwc g np ks = some pat → KwOk CX P w K mg base lv' x n sp np ks pat) : GM CX P w K mg base T (Γ.put g (.fn n sp dfl)) lv' where
  xn := G.xn
  gcd := G.gcd
  glob := fun i y o hi => by
    show GlobOkM CX P w K mg base lv' y o (if i = g then _ else Γ.gv i)
    by_cases e : i = g
    · subst e
      rw [if_pos rfl]
      rw [hg] at hi
      cases hi
      exact h
    · rw [if_neg e]
      exact (G.glob i y o hi).mono hl
  fld := G.fld
  mt := fun i C m n' sp' dfl' h1 h => by
    have h1 : GV.insOf (if i = g then GV.fn n sp dfl else Γ.gv i) = some C := h1
    by_cases e : i = g
    · rw [if_pos e] at h1; cases h1
    · rw [if_neg e] at h1; exact (G.mt i C m n' sp' dfl' h1 h).mono hl
  pr := fun i C f sp' h1 h => by
    have h1 : GV.insOf (if i = g then GV.fn n sp dfl else Γ.gv i) = some C := h1
    by_cases e : i = g
    · rw [if_pos e] at h1; cases h1
    · rw [if_neg e] at h1; exact (G.pr i C f sp' h1 h).mono hl
  isi := G.isi
  nf := G.nf
  kwm := fun i y np ks pat C j hi hv hp => by
    have hv : (if i = g then _ else Γ.gv i) = GV.cla C j := hv
    by_cases e : i = g
    · rw [if_pos e] at hv; cases hv
    · rw [if_neg e] at hv
      exact (G.kwm i y np ks pat C j hi hv hp).mono hl
  xfl := G.xfl
  sub := G.sub
  kwc := fun i y nk np ks pat n' sp' dfl' hi hv hp => by
    have hv : (if i = g then _ else Γ.gv i) = GV.fn n' sp' dfl' := hv
    by_cases e : i = g
    · subst e
      rw [if_pos rfl] at hv
      cases hv
      rw [hg] at hi
      cases hi
      exact hk np ks pat hp
    · rw [if_neg e] at hv
      exact (G.kwc i y nk np ks pat n' sp' dfl' hi hv hp).mono hl
/-- a class's promise of __init__ put in -/
theorem GM.stepC (G : GM CX P w K mg base T Γ lv) (hl : lv ≤ lv') {g : Nat} {x : Str} {C : Addr} {i : Option (Nat × DSp × List D)} (hg : T.gn[g]? = some (x, none)) (hC : (Γ.gv g).insOf = some C) (h : GlobOkM CX P w K mg base lv' x none (.cla C i))
    (hk : ∀ np ks pat, Γ.kwc g np ks = some pat → KwcOk CX P w K mg base lv' C np ks pat i) : GM CX P w K mg base T (Γ.put g (.cla C i)) lv' where
  xn := G.xn
  gcd := G.gcd
  glob := fun i' y o hi => by
    show GlobOkM CX P w K mg base lv' y o (if i' = g then _ else Γ.gv i')
    by_cases e : i' = g
    · subst e
      rw [if_pos rfl]
      rw [hg] at hi
      cases hi
      exact h
    · rw [if_neg e]
      exact (G.glob i' y o hi).mono hl
  fld := G.fld
  mt := fun i' D m n' sp' dfl' h1 h => by
    have h1 : GV.insOf (if i' = g then GV.cla C i else Γ.gv i') = some D := h1
    by_cases e : i' = g
    · rw [if_pos e] at h1; cases h1; exact (G.mt i' C m n' sp' dfl' (by rw [e]; exact hC) h).mono hl
    · rw [if_neg e] at h1; exact (G.mt i' D m n' sp' dfl' h1 h).mono hl
  pr := fun i' D f sp' h1 h => by
    have h1 : GV.insOf (if i' = g then GV.cla C i else Γ.gv i') = some D := h1
    by_cases e : i' = g
    · rw [if_pos e] at h1; cases h1; exact (G.pr i' C f sp' (by rw [e]; exact hC) h).mono hl
    · rw [if_neg e] at h1; exact (G.pr i' D f sp' h1 h).mono hl
  isi := G.isi
  nf := G.nf
  kwm := fun i' y np ks pat C' j hi hv hp => by
    have hv : (if i' = g then _ else Γ.gv i') = GV.cla C' j := hv
    by_cases e : i' = g
    · subst e
      rw [if_pos rfl] at hv
      cases hv
      exact hk np ks pat hp
    · rw [if_neg e] at hv
      exact (G.kwm i' y np ks pat C' j hi hv hp).mono hl
  xfl := G.xfl
  sub := G.sub
  kwc := fun i' y nk np ks pat n' sp' dfl' hi hv hp => by
    have hv : (if i' = g then _ else Γ.gv i') = GV.fn n' sp' dfl' := hv
    by_cases e : i' = g
    · rw [if_pos e] at hv; cases hv
    · rw [if_neg e] at hv
      exact (G.kwc i' y nk np ks pat n' sp' dfl' hi hv hp).mono hl
def Gm.putM (Γ : Gm) (g : Nat) (m : Str) (v : Nat × DSp × List D) : Gm := { Γ with mt := fun i k => if i = g then (if k = m then some v else Γ.mt i k) else Γ.mt i k }
def Gm.putP (Γ : Gm) (g : Nat) (f : Str) (v : DSp) : Gm := { Γ with pr := fun i k => if i = g then (if k = f then some v else Γ.pr i k) else Γ.pr i k }
/-- a method's promise put in -/
theorem GM.stepM (G : GM CX P w K mg base T Γ lv) (hl : lv ≤ lv') {g : Nat} {C : Addr} (hC : (Γ.gv g).insOf = some C) {m : Str} {n : Nat} {sp : DSp} {dfl : List D} (h : MtOk CX P w K mg base lv' C m n sp dfl) : GM CX P w K mg base T (Γ.putM g m (n, sp, dfl)) lv' :=
  let G' := G.mono hl
  { xn := G.xn, gcd := G.gcd, glob := G'.glob, fld := G.fld, xfl := G.xfl, sub := G.sub, pr := G'.pr, isi := G.isi, nf := G.nf, kwm := G'.kwm, kwc := G'.kwc,
    mt := fun i D k n' sp' dfl' h1 q0 => by
      by_cases e : i = g
      · have q : (if k = m then some (n, sp, dfl) else Γ.mt i k) = some (n', sp', dfl') := (if_pos e).symm.trans q0
        have e3 : some C = some D := (by rw [← e] at hC; exact hC.symm.trans h1)
        cases e3
        by_cases e2 : k = m
        · have q2 := (if_pos e2).symm.trans q
          cases q2
          rw [e2]
          exact h
        · exact G'.mt i C k n' sp' dfl' h1 ((if_neg e2).symm.trans q)
      · exact G'.mt i D k n' sp' dfl' h1 ((if_neg e).symm.trans q0) }
theorem GM.stepP (G : GM CX P w K mg base T Γ lv) (hl : lv ≤ lv') {g : Nat} {C : Addr} (hC : (Γ.gv g).insOf = some C) {f : Str} {sp : DSp} (h : PrOk CX P w K mg base lv' C f sp) : GM CX P w K mg base T (Γ.putP g f sp) lv' :=
  let G' := G.mono hl
  { xn := G.xn, gcd := G.gcd, glob := G'.glob, fld := G.fld, xfl := G.xfl, sub := G.sub, mt := G'.mt, isi := G.isi, nf := G.nf, kwm := G'.kwm, kwc := G'.kwc,
    pr := fun i D k sp' h1 q0 => by
      by_cases e : i = g
      · have q : (if k = f then some sp else Γ.pr i k) = some sp' := (if_pos e).symm.trans q0
        have e3 : some C = some D := (by rw [← e] at hC; exact hC.symm.trans h1)
        cases e3
        by_cases e2 : k = f
        · have q2 := (if_pos e2).symm.trans q
          cases q2
          rw [e2]
          exact h
        · exact G'.pr i C k sp' h1 ((if_neg e2).symm.trans q)
      · exact G'.pr i D k sp' h1 ((if_neg e).symm.trans q0) }
/-- what the head tells of an own class: its making, a method -/
def mkB (K : PySem.W.Frag) (C f : Addr) : Bool := PySem.W.makesIn K C && (decide (PySem.W.findIn K (.ref C) "__init__" = some (some (.ref f))) && (PySem.W.isFn K (.ref f) && PySem.W.keepIn K (.ref C)))
def metB (K : PySem.W.Frag) (C : Addr) (m : Str) (f : Addr) : Bool := decide (PySem.W.findIn K (.ref C) m = some (some (.ref f))) && (PySem.W.isFn K (.ref f) && PySem.W.keepIn K (.ref f))
theorem mkB_ok {C f : Addr} (h : mkB K C f = true) : Mk K C f := by
  obtain ⟨h1, h⟩ := Bool.and_eq_true_iff.mp h
  obtain ⟨h2, h⟩ := Bool.and_eq_true_iff.mp h
  obtain ⟨h3, h4⟩ := Bool.and_eq_true_iff.mp h
  exact ⟨h1, of_decide_eq_true h2, h3, h4⟩
theorem metB_ok {C f : Addr} {m : Str} (h : metB K C m f = true) : Meth K C m f := by
  obtain ⟨h1, h⟩ := Bool.and_eq_true_iff.mp h
  obtain ⟨h2, h3⟩ := Bool.and_eq_true_iff.mp h
  exact ⟨of_decide_eq_true h1, h2, h3⟩
def prpB (K : PySem.W.Frag) (C : Addr) (f : Str) (p g : Addr) : Bool := decide (PySem.W.findIn K (.ref C) f = some (some (.ref p))) && (decide (PySem.W.specialIn K (.ref p) "__get__" = some (some (.builtin "property.__get__"))) && (decide (PySem.W.takesIn K (.ref p) = some true) && (match PySem.W.recIn K p "property" with
  | some (.ref g' :: _) => decide (g' = g)
  | _ => false)))
theorem prpB_ok {C p g : Addr} {f : Str} (h : prpB K C f p g = true) : PropOf K C f p g := by
  obtain ⟨h1, h⟩ := Bool.and_eq_true_iff.mp h
  obtain ⟨h2, h⟩ := Bool.and_eq_true_iff.mp h
  obtain ⟨h3, h4⟩ := Bool.and_eq_true_iff.mp h
  refine ⟨of_decide_eq_true h1, of_decide_eq_true h2, of_decide_eq_true h3, ?_⟩
  split at h4
  · rename_i g' r e
    have := of_decide_eq_true h4
    subst this
    exact ⟨_, e⟩
  · cases h4
end
end DL
namespace DL
open PySem PySem.Spec L2

/-! ### an own error's class, told by one Bool over the written part -/
theorem bAnd {a b : Bool} (h : (a && b) = true) : a = true ∧ b = true := Bool.and_eq_true_iff.mp h
def slotsB (sl : Array (Option Value)) : Bool := match sl.toList with
  | [_, _, _, _, some (.builtin n), _] => decide (n = "ValueError.__new__")
  | _ => false
def mroB (C : Addr) (l : List Value) : Bool := match l with
  | .ref c :: bm => decide (c = C) && PySem.HandSPX.refsVE bm
  | _ => false
def clsB (K : PySem.W.Frag) (C : Addr) : Bool := match K.lookup C with
  | some ⟨.type t, _, .cls cd, sl⟩ => decide (t = "type") && (mroB C cd.mro && (cd.hasDict && (!cd.hasDel && slotsB sl)))
  | _ => false
theorem clsB_ok {K : PySem.W.Frag} {C : Addr} (h : clsB K C = true) : ∃ nm q N bs bm sn sub ab col dd k0 k1 k2 k3 k5, K.lookup C = some (excClassObj nm q C N bs bm true sn sub ab col dd k0 k1 k2 k3 k5 "ValueError.__new__") ∧ PySem.HandSPX.refsVE bm = true := by
  unfold clsB at h
  split at h
  · rename_i t dd cd sl ho
    obtain ⟨h1, h⟩ := bAnd h
    obtain ⟨h2, h⟩ := bAnd h
    obtain ⟨h3, h⟩ := bAnd h
    obtain ⟨h4, h5⟩ := bAnd h
    have e1 := of_decide_eq_true h1
    subst e1
    unfold mroB at h2
    split at h2
    · rename_i c bm hm
      obtain ⟨h6, h7⟩ := bAnd h2
      have e2 := of_decide_eq_true h6
      subst e2
      unfold slotsB at h5
      split at h5
      · rename_i k0 k1 k2 k3 n k5 hs
        have e3 := of_decide_eq_true h5
        subst e3
        obtain ⟨nm, bs, mro, ns, qn, hd, sn, sub, ab, col, del⟩ := cd
        dsimp only at hm h3 h4
        have e4 : del = false := by simpa using h4
        subst hm e4 h3
        have hsl : sl = #[k0, k1, k2, k3, some (.builtin "ValueError.__new__"), k5] := by
          obtain ⟨l⟩ := sl
          simp only at hs
          rw [hs]
        subst hsl
        exact ⟨nm, qn, ns, bs, bm, sn, sub, ab, col, dd, k0, k1, k2, k3, k5, ho, h7⟩
      · cases h5
    · cases h2
  · cases h
def oexB (K : PySem.W.Frag) (C : Addr) : Bool := clsB K C && (decide (PySem.W.findIn K (.ref C) "__setattr__" = some (some (.builtin "object.__setattr__"))) && (decide (PySem.W.subIn K (.ref C) (.type "BaseException") = some true) && (decide (PySem.W.typeIn K (.ref C) = some (.type "type")) && PySem.W.keepIn K (.ref C))))
theorem oexB_ok {K : PySem.W.Frag} {C : Addr} (h : oexB K C = true) : OexC K C := by
  obtain ⟨h1, h⟩ := bAnd h
  obtain ⟨h2, h⟩ := bAnd h
  obtain ⟨h3, h⟩ := bAnd h
  obtain ⟨h4, h5⟩ := bAnd h
  exact ⟨clsB_ok h1, of_decide_eq_true h2, of_decide_eq_true h3, of_decide_eq_true h4, h5⟩
/-- the parameters: plain ones, of these names -/
def parB (a : Arguments) (ps : List Str) : Bool := match a with
  | ⟨[], as, none, [], [], none, []⟩ => decide (as.map (·.arg) = ps) && decide (as.length ≤ 4)
  | _ => false
theorem parB_ok {a : Arguments} {ps : List Str} (h : parB a ps = true) : ∃ as : List Arg, a = ⟨[], as, none, [], [], none, []⟩ ∧ as.map (·.arg) = ps ∧ as.length ≤ 4 := by
  unfold parB at h
  split at h
  · rename_i as
    obtain ⟨h1, h2⟩ := bAnd h
    exact ⟨as, rfl, of_decide_eq_true h1, of_decide_eq_true h2⟩
  · cases h
def xscB (N ps : List Str) (sc : Scope) : Bool := decide (sc.kind = .function) && (!sc.isCoroutine && (!sc.isGenerator && (decide N.Nodup && (decide (N.take ps.length = ps) && (ps.all (fun x => decide (sc.names.lookup x = some .local)) && (sc.names.all (fun y => decide (y.2 ≠ .cell)) && sc.names.all (fun y => decide (y.2 ≠ .free) || decide (y.1 = ("__class__" : Str)))))))))
theorem xscB_ok {N ps : List Str} {sc : Scope} (h : xscB N ps sc = true) : XScope N ps sc := by
  obtain ⟨h1, h⟩ := bAnd h
  obtain ⟨h2, h⟩ := bAnd h
  obtain ⟨h3, h⟩ := bAnd h
  obtain ⟨h4, h⟩ := bAnd h
  obtain ⟨h5, h⟩ := bAnd h
  obtain ⟨h6, h⟩ := bAnd h
  obtain ⟨h7, h8⟩ := bAnd h
  exact ⟨of_decide_eq_true h1, by simpa using h2, by simpa using h3, of_decide_eq_true h4, of_decide_eq_true h5, fun x hx => of_decide_eq_true (List.all_eq_true.mp h6 x hx), fun y hy => of_decide_eq_true (List.all_eq_true.mp h7 y hy),
    fun y hy e => by
      have z := List.all_eq_true.mp h8 y hy
      simp only [e, ne_eq, not_true_eq_false, decide_false, Bool.false_or, decide_eq_true_eq] at z
      exact z⟩
def codeB (P : Program) (K : PySem.W.Frag) (cd : Value) : Bool := match cd with
  | .ref c => (match K.lookup c with
    | some ⟨_, _, .fields vs, _⟩ => (match (vs[2]? : Option Value) with
      | some (.str file _) => (P.main.file : Str) == file
      | _ => false)
    | _ => false)
  | _ => false
theorem codeB_ok {P : Program} {K : PySem.W.Frag} {cd : Value} (h : codeB P K cd = true) : ∃ cda ccl cdd vs ccs file tf, cd = .ref cda ∧ K.lookup cda = some ⟨ccl, cdd, .fields vs, ccs⟩ ∧ vs[2]? = some (.str file tf) ∧ ((P.main.file : Str) == file) = true := by
  unfold codeB at h
  split at h
  · split at h
    · rename_i ho
      split at h
      · rename_i hv
        exact ⟨_, _, _, _, _, _, _, rfl, ho, hv, h⟩
      · cases h
    · cases h
  · cases h
def cellB (K : PySem.W.Frag) (cc C : Addr) : Bool := match K.lookup cc with
  | some ⟨_, _, .cell (some (.ref D)), _⟩ => decide (D = C)
  | _ => false
theorem cellB_ok {K : PySem.W.Frag} {cc C : Addr} (h : cellB K cc C = true) : ∃ cl cld csl, K.lookup cc = some ⟨cl, cld, .cell (some (.ref C)), csl⟩ := by
  unfold cellB at h
  split at h
  · rename_i ho
    have e := of_decide_eq_true h
    subst e
    exact ⟨_, _, _, ho⟩
  · cases h
/-- an __init__ as an object -/
def iniB (P : Program) (K : PySem.W.Frag) (C : Addr) (fs : List Str) (tx : List Nat) (fd : FuncData) : Bool := match fd.body, fd.closure with
  | .stmts b, [(cn, cc)] => decide (fd.defaults = .none) && (decide (cn = ("__class__" : Str)) && (chkBody fd.scope fs tx b && (decide (fd.globals = mainGlobals) && (decide (fd.builtins = builtinsNs) && (xscB ("self" :: fs) ("self" :: fs) fd.scope && (parB fd.params ("self" :: fs) &&
      (PySem.W.codeIn K fd.code fd.qualname && (codeB P K fd.code && (cellB K cc C && (decide (fd.scope.names.lookup ("super" : Str) = some .globalImplicit) && (decide (fd.scope.names.lookup ("__class__" : Str) = some .free) && decide (fd.scope.names.lookup ("self" : Str) = some .local))))))))))))
  | _, _ => false
def errB (P : Program) (K : PySem.W.Frag) (C fI : Addr) (fs : List Str) (tx : List Nat) : Bool := oexB K C && (decide (PySem.W.findIn K (.ref C) "__init__" = some (some (.ref fI))) && (decide (PySem.W.typeIn K (.ref fI) = some (.type "function")) && (decide (fs.Nodup) && (decide (fs.length ≤ 3) &&
  (fs.all (fun f => decide (PySem.W.findIn K (.ref C) f = some none)) && (decide (PySem.W.mroIn K C (.ref C) = some true) && (decide (PySem.W.nsIn K mainGlobals "super" = some none) && (!(P.main.scope.names.lookup ("super" : Str)).isSome &&
  (decide (PySem.W.nsIn K cStatics "thirdparty.any" = some none) && (decide (PySem.W.ks_superIn K C C "__init__" = some (some (.builtin "ValueError.__init__"))) && (decide (PySem.W.subIn K (.ref C) (.type "ValueError") = some true) && (match K.lookup fI with
    | some ⟨_, _, .func fd, _⟩ => iniB P K C fs tx fd
    | _ => false))))))))))))
def BindI (fs : List Str) : Prop := ∀ (as : List Arg) (us : List Value) (name qual : Str) (body : List Stmt) (scope : Scope) (kV doc pm : Value) (an : Option Addr) (cd ct : Value) (cc : Addr), as.map (·.arg) = ("self" : Str) :: fs → us.length = as.length →
  bindArgs (PySem.W.ksFn name qual ⟨[], as, none, [], [], none, []⟩ body scope .none kV doc pm an cd ct cc) ⟨us, []⟩ = pure ((as.map (·.arg)).zip us)
theorem bindI0 : BindI [] := fun as us _ _ _ _ _ _ _ _ _ _ _ h hl => by
  match as, us, hl with
  | [⟨a, x, p⟩], [u], _ =>
    simp only [List.map_cons, List.map_nil, List.cons.injEq, and_true] at h
    subst h
    rfl
  | [], _, _ => simp at h
  | _ :: _ :: _, _, _ => simp at h
theorem bindI_what : BindI ["what"] := fun as us _ _ _ _ _ _ _ _ _ _ _ h hl => by
  match as, us, hl with
  | [⟨a, x, p⟩, ⟨b, y, q⟩], [u, v], _ =>
    simp only [List.map_cons, List.map_nil, List.cons.injEq, and_true] at h
    obtain ⟨rfl, rfl⟩ := h
    rfl
  | [], _, _ => simp at h
  | [_], _, _ => simp at h
  | _ :: _ :: _ :: _, _, _ => simp at h
theorem bindI_index_what : BindI ["index", "what"] := fun as us _ _ _ _ _ _ _ _ _ _ _ h hl => by
  match as, us, hl with
  | [⟨a, x, p⟩, ⟨b, y, q⟩, ⟨c, z, r⟩], [u, v, w], _ =>
    simp only [List.map_cons, List.map_nil, List.cons.injEq, and_true] at h
    obtain ⟨rfl, rfl, rfl⟩ := h
    rfl
  | [], _, _ => simp at h
  | [_], _, _ => simp at h
  | [_, _], _, _ => simp at h
  | _ :: _ :: _ :: _ :: _, _, _ => simp at h
section
variable {CX : CXT} {P : Program} {w : World} {K : PySem.W.Frag} {mg : Str → Option Value} {base : Heap}
theorem errB_ok {C fI : Addr} {fs : List Str} {tx : List Nat} (hbi : BindI fs) (h : errB P K C fI fs tx = true) (G : base.Ns mainGlobals mg) (X : K.In base) (k : Nat) : ErrOk CX P w K mg base (k + 2) C fs tx := by
  obtain ⟨h1, h⟩ := bAnd h
  obtain ⟨h2, h⟩ := bAnd h
  obtain ⟨h3, h⟩ := bAnd h
  obtain ⟨h4, h⟩ := bAnd h
  obtain ⟨h5, h⟩ := bAnd h
  obtain ⟨h6, h⟩ := bAnd h
  obtain ⟨h7, h⟩ := bAnd h
  obtain ⟨h8, h⟩ := bAnd h
  obtain ⟨h9, h⟩ := bAnd h
  obtain ⟨ha, h⟩ := bAnd h
  obtain ⟨hb, h⟩ := bAnd h
  obtain ⟨hc, h⟩ := bAnd h
  have few := of_decide_eq_true h5
  split at h
  · rename_i oc od fd osl lk
    unfold iniB at h
    obtain ⟨name, qual, params, fb, scope, glb, clo, dV, kV, doc, pm, an, cd, ct, blt⟩ := fd
    dsimp only at h
    split at h
    · rename_i b cn cc
      obtain ⟨i0, h⟩ := bAnd h
      obtain ⟨i1, h⟩ := bAnd h
      obtain ⟨i2, h⟩ := bAnd h
      obtain ⟨i3, h⟩ := bAnd h
      obtain ⟨i4, h⟩ := bAnd h
      obtain ⟨i5, h⟩ := bAnd h
      obtain ⟨i6, h⟩ := bAnd h
      obtain ⟨i7, h⟩ := bAnd h
      obtain ⟨i8, h⟩ := bAnd h
      obtain ⟨i9, h⟩ := bAnd h
      obtain ⟨j1, h⟩ := bAnd h
      obtain ⟨j2, j3⟩ := bAnd h
      have e0 := of_decide_eq_true i0
      have e1 := of_decide_eq_true i1
      have e3 := of_decide_eq_true i3
      have e4 := of_decide_eq_true i4
      subst e0 e1 e3 e4
      obtain ⟨as, rfl, has, hal⟩ := parB_ok i6
      have S := xscB_ok i5
      have T : SupT P K mg scope fI cc cd C := {
        fn := by
          cases as with
          | nil => simp at has
          | cons a as =>
            simp only [List.map_cons, List.cons.injEq] at has
            exact ⟨_, _, _, _, a, lk, rfl, has.1⟩
        code := codeB_ok i8
        cell := cellB_ok i9
        cls := oexB_ok h1
        self := of_decide_eq_true h7
        sup := PySem.W.mg_none_of X G (of_decide_eq_true h8)
        top := by simpa using h9
        ns := of_decide_eq_true j1
        nc := of_decide_eq_true j2
        nl := of_decide_eq_true j3
        any := of_decide_eq_true ha
        along := of_decide_eq_true hb
        isv := of_decide_eq_true hc }
      refine ⟨oexB_ok h1, of_decide_eq_true h4, by omega, k + 1, fI, _, "self" :: fs, Nat.le_refl _, of_decide_eq_true h2, of_decide_eq_true h3,
        init_ok (name := name) (params := ⟨[], as, none, [], [], none, []⟩) (dV := .none) (kV := kV) (doc := doc) (pm := pm) (ct := ct) (an := an) T lk i7 S i2 (fun f hf => of_decide_eq_true (List.all_eq_true.mp h6 f hf)) (by omega) k, ?_⟩
      refine .all fun us hl => ?_
      rw [← has] at hl ⊢
      exact hbi as us _ _ _ _ _ _ _ _ _ _ _ has (by simpa using hl)
    · cases h
  · cases h
end
end DL
namespace DL
open PySem PySem.Spec L2
/-! ### the head's facts, the statics among them -/
def frY (g : Addr → Option Obj) (n : Nat) : PySem.W.Frag := He.frG g (cStatics :: He.asD g n)
def hookY (n : Nat) (fa : List He.Fa) (fn : List He.DefD) (ex : PySem.W.Frag → Bool) : PySem.W.Hook where
  α := He.AlD × Bool
  obs := fun s => (He.obsD fa fn (frY s.heap.get? n), ex (frY s.heap.get? n))
  val := fun _ => (He.valD fn, true)
  says := fun _ h => ∃ K : PySem.W.Frag, K.In h ∧ He.SaysD fa fn K ∧ ex K = true
  of := fun _ _ e => ⟨_, He.frG_in, congrArg (fun z : He.AlD × Bool => z.1) e, congrArg (fun z : He.AlD × Bool => z.2) e⟩
  keeps := fun _ _ _ ⟨K, hK, c⟩ k => ⟨K, PySem.W.Frag.In.keeps hK k, c⟩
end DL
namespace DL
open PySem PySem.Spec L2

/-! ### caught errors: what is asked of the written part -/
def excB (K : PySem.W.Frag) (D : Addr) : Bool := decide (PySem.W.findIn K (.ref D) "__getattribute__" = some (some (.builtin "BaseException.__getattribute__"))) && (decide (PySem.W.findIn K (.ref D) "__getattr__" = some none) && (decide (PySem.W.subIn K (.ref D) (.type "BaseException") = some true) &&
  (PySem.W.hasDictIn K D && (decide (PySem.W.findIn K (.ref D) "__class__" = some (some (.builtin "object.__class__"))) && (decide (PySem.W.specialIn K (.builtin "object.__class__") "__get__" = some (some (.builtin "getset_descriptor.__get__"))) &&
  (decide (PySem.W.takesIn K (.builtin "object.__class__") = some true) && decide (PySem.W.mroIn K D (.type "object") = some true)))))))
theorem excB_ok {K : PySem.W.Frag} {D : Addr} (h : excB K D = true) : ExcC K D := by
  obtain ⟨h1, h⟩ := bAnd h
  obtain ⟨h2, h⟩ := bAnd h
  obtain ⟨h3, h⟩ := bAnd h
  obtain ⟨h4, h⟩ := bAnd h
  obtain ⟨h5, h⟩ := bAnd h
  obtain ⟨h6, h⟩ := bAnd h
  obtain ⟨h7, h8⟩ := bAnd h
  exact ⟨of_decide_eq_true h1, of_decide_eq_true h2, of_decide_eq_true h3, h4, of_decide_eq_true h5, of_decide_eq_true h6, of_decide_eq_true h7, of_decide_eq_true h8⟩
def subX (K : PySem.W.Frag) (C C' : Addr) : Option Bool := if excB K C = true then (match PySem.W.kitOne K (.ref C) (.ref C'), PySem.W.exmOne K (.ref C) (.ref C') with
  | some a, some b => if a = b then some a else none
  | _, _ => none) else none
theorem subX_ok {K : PySem.W.Frag} {C C' : Addr} {b : Bool} (h : subX K C C' = some b) : ExcC K C ∧ PySem.W.kitOne K (.ref C) (.ref C') = some b ∧ PySem.W.exmOne K (.ref C) (.ref C') = some b := by
  unfold subX at h
  split at h
  · rename_i he
    split at h
    · rename_i x y h1 h2
      split at h
      · rename_i e
        cases h
        subst e
        exact ⟨excB_ok he, h1, h2⟩
      · cases h
    · cases h
  · cases h
def xflX (K : PySem.W.Frag) (C : Addr) (f : Str) : Prop := xfB K C = true ∧ PySem.W.findIn K (.ref C) f = some none
/-- facts of an own class by one Bool -/
def clsOB (K : PySem.W.Frag) (C : Addr) : Bool := PySem.W.plainGet K C Str.empty && (PySem.W.hasDictIn K C && (PySem.W.plainOver K C && decide (PySem.W.findIn K (.ref C) "__setattr__" = some (some (.builtin "object.__setattr__")))))
theorem clsOB_ok {K : PySem.W.Frag} {C : Addr} (h : clsOB K C = true) : Cls K C := by
  obtain ⟨h1, h⟩ := bAnd h
  obtain ⟨h2, h⟩ := bAnd h
  obtain ⟨h3, h4⟩ := bAnd h
  exact ⟨h1, h2, h3, of_decide_eq_true h4⟩
def insB (K : PySem.W.Frag) (C : Addr) : Bool := clsOB K C && (decide (PySem.W.findIn K (.ref C) "__class__" = some (some (.builtin "object.__class__"))) && (decide (PySem.W.specialIn K (.builtin "object.__class__") "__get__" = some (some (.builtin "getset_descriptor.__get__"))) &&
  (decide (PySem.W.takesIn K (.builtin "object.__class__") = some true) && decide (PySem.W.mroIn K C (.type "object") = some true))))
theorem insB_ok {K : PySem.W.Frag} {C : Addr} (h : insB K C = true) : InsF K C := by
  obtain ⟨h1, h⟩ := bAnd h
  obtain ⟨h2, h⟩ := bAnd h
  obtain ⟨h3, h⟩ := bAnd h
  obtain ⟨h4, h5⟩ := bAnd h
  exact ⟨clsOB_ok h1, of_decide_eq_true h2, of_decide_eq_true h3, of_decide_eq_true h4, of_decide_eq_true h5⟩
def isiX (K : PySem.W.Frag) : Sum String Addr → Addr → Option Bool
  | .inl n, C => PySem.W.kitOne K (.type n) (.ref C)
  | .inr D, C => if insB K D = true then PySem.W.kitOne K (.ref D) (.ref C) else none
theorem isiX_ok {K : PySem.W.Frag} {t : Sum String Addr} {C : Addr} {b : Bool} (h : isiX K t C = some b) : IsiOk K t C b := by
  cases t with
  | inl n => exact h
  | inr D =>
    have h : (if insB K D = true then PySem.W.kitOne K (.ref D) (.ref C) else none) = some b := h
    by_cases q : insB K D = true
    · rw [if_pos q] at h; exact ⟨insB_ok q, h⟩
    · rw [if_neg q] at h; cases h
def fldX (K : PySem.W.Frag) (C : Addr) (f : Str) : Prop := clsOB K C = true ∧ PySem.W.findIn K (.ref C) f = some none
/-- the ground: all promises of defs empty -/
def gm0 (K : PySem.W.Frag) (gv : Nat → GV) (kwc : Nat → Nat → List Str → Option (List (Sum Nat D))) : Gm := { gv := gv, fld := fldX K, sub := subX K, xfl := xflX K, kwc := kwc, isi := isiX K, nf := fun t C => PySem.W.notFirst K C (clsV t) }
theorem gm0_ok {CX : CXT} {P : Program} {w : World} {K : PySem.W.Frag} {mg : Str → Option Value} {base : Heap} {T : Tb} {gv : Nat → GV} {kwc : Nat → Nat → List Str → Option (List (Sum Nat D))} {lv : Nat} (hx : ∀ x ∈ T.xn, mg x = none) (hg : T.gcd = true → mg "gcd" = some (.builtin "math.gcd"))
    (glob : ∀ g x o, T.gn[g]? = some (x, o) → GlobOkM CX P w K mg base lv x o (gv g)) (hk : ∀ g x nk np ks pat n' sp dfl, T.gn[g]? = some (x, some nk) → gv g = .fn n' sp dfl → kwc g np ks = some pat → KwOk CX P w K mg base lv x n' sp np ks pat) (hkm : ∀ g C i, gv g = .cla C i → i = none) :
    GM CX P w K mg base T (gm0 K gv kwc) lv where
  xn := hx
  gcd := hg
  glob := glob
  fld := fun C f h => ⟨clsOB_ok h.1, h.2⟩
  mt := fun _ _ _ _ _ _ _ h => by cases h
  pr := fun _ _ _ _ _ h => by cases h
  isi := fun t C b h => isiX_ok h
  nf := fun t C h => h
  kwm := fun g x np ks pat C i _ h _ => by rw [hkm g C i h]; trivial
  xfl := fun C f h => ⟨xfB_ok h.1, h.2⟩
  sub := fun C C' b h => subX_ok h
  kwc := hk
/-- a def with no defaults -/
theorem fnG0 {K : PySem.W.Frag} {mg : Str → Option Value} {x : Str} {n : Nat} {f : Addr} {fd : FuncData} {ps : List Str} {qual : Str} {params : Arguments} {body : List Stmt} {scope : Scope} (F : FunD K x qual params body scope [] [] f fd) (m : mg x = some (.ref f)) (hn : ps.length = n)
    (h : ∀ (kV doc pm : Value) (an : Option Addr) (cdv ct : Value) (us : List Value), us.length = ps.length → bindArgs (PySem.W.fnOf x qual params body scope .none kV doc pm an cdv ct) ⟨us, []⟩ = pure (ps.zip us)) : FnG K mg x n 0 [] f fd ps :=
  ⟨m, F.kp, hn, rfl, fun j hj => ⟨[], [], F.bindsN h, .nil, fun H => by rw [List.drop_nil]; exact .nil⟩⟩
end DL
namespace DL
open PySem PySem.Spec L2
/-! ### the law itself -/
def noL (K : PySem.W.Frag) : Bool := K.all fun p => !decide (p.2.cls = .type "list")
theorem look_mem {a : Addr} {o : Obj} : ∀ {l : List (Addr × Obj)}, l.lookup a = some o → (a, o) ∈ l
  | [], h => by cases h
  | (b, u) :: l, h => by
    by_cases e : a = b
    · subst e; simp [List.lookup] at h; subst h; exact List.mem_cons_self
    · simp only [List.lookup, beq_eq_false_iff_ne.mpr e] at h; exact List.mem_cons_of_mem _ (look_mem h)
theorem noL_ok {K : PySem.W.Frag} (h : noL K = true) {H : Hp} {a : Addr} {xs : List V} (s : SqL K H a xs) : Rd H a (.lst xs) := by
  rcases s with s | ⟨o, its, n, e, c, _⟩
  · exact s
  · have z := List.all_eq_true.mp h (a, o) (look_mem e)
    simp [c] at z
/-- the promise of the law's def over data -/
def spLawD : DSp := fun ds M _ Q => ∃ (a : Addr) (ns : List Int), ds = [.ref a] ∧ ns.length ≤ 63 ∧ (∀ z ∈ ns, Builtin.Int.intBits z ≤ 1048576) ∧ (M a = some (.lst (ns.map D.int)) ∨ M a = some (.rol (ns.map D.int))) ∧ (∀ b, b ≠ a → M b = none) ∧ ∀ M', Q (.bl true) M'
def spLawV (K : PySem.W.Frag) : Sp := fun vs H Q _ => ∃ (a : Addr) (ns : List Int), vs = [.ref a] ∧ ns.length ≤ 63 ∧ (∀ z ∈ ns, Builtin.Int.intBits z ≤ 1048576) ∧ SqL K H a (ns.map V.int) ∧ ∀ H', Q (.bl true) H'
theorem law_imp {K : PySem.W.Frag} (hK : noL K = true) (vs : List V) (H : Hp) (Q : VK) (E : XK) (h : spLawV K vs H Q E) : liftSp K 1 spLawD vs H Q E := by
  obtain ⟨a, ns, rfl, hl, hz, hS, k⟩ := h
  have fin : ∀ (o : MO), (o = .lst (ns.map D.int) ∨ o = .rol (ns.map D.int)) → RepM K H a o → liftSp K 1 spLawD [.ref a] H Q E := fun o ho r => by
    refine ⟨rfl, [.ref a], fun b => if b = a then some o else none, fun _ _ => False, fun d _ => d = .bl true, fun b u e => ?_, .cons (.ref a) .nil, ⟨a, ns, rfl, hl, hz, ?_, fun b hb => if_neg hb, fun M' => rfl⟩, fun d M' v H' _ _ rv e => ?_, fun x M' cls dd H' _ _ _ z => z.elim⟩
    · have e : (if b = a then some o else none) = some u := e
      by_cases hb : b = a
      · rw [if_pos hb] at e; cases e; subst hb; exact r
      · rw [if_neg hb] at e; cases e
    · show (if a = a then some o else none) = _ ∨ (if a = a then some o else none) = _
      rw [if_pos rfl]
      rcases ho with rfl | rfl
      · exact .inl rfl
      · exact .inr rfl
    · subst e; cases rv; exact k H'
  rcases noL_ok hK hS with e | ⟨ob, e⟩
  · exact fin _ (.inl rfl) ⟨_, e, Reps.ints ns⟩
  · exact fin _ (.inr rfl) ⟨_, ob, e, Reps.ints ns⟩
theorem fnOk0 {P : Program} {w : World} {K : PySem.W.Frag} {mg : Str → Option Value} {base : Heap} {k : Nat} {f : Addr} {fd : FuncData} {ps : List Str} {sp : Sp} (F : FnOk P w K mg base (L2.CX P w) k f fd ps sp) (h : ∀ vs H Q E, sp vs H Q E → sp vs H Q fun _ _ _ => False) : FnOk P w K mg base CX0 k f fd ps sp :=
  ⟨F.len, fun A outer s H args us vs Q E hr he hb hv hs => codeAny_mono (F.run A outer s H args us vs Q (fun _ _ _ => False) hr he hb hv (h _ _ _ _ hs)) fun r s' hq => by
    cases r with
    | error e => exact (no_cx _ _ _ _ _ hq).elim
    | ok fl => cases fl <;> exact hq⟩
/-- a law's end: the head by a hook, the script's bits told -/
theorem walk_bits {l : PySem.W.OpenLaw} {n k : Nat} {q : Program} {loose : List Str} {XP : (Str → Option Value) → Heap → Prop} {YP : World → Heap → Prop} {d : DefRec} {x : Str}
    (hn : l.most = some n) (hn2 : n ≤ sizeLine) (hdf : d.params.defaults = []) (hr : Room k callerA)
    (F : ∀ (w : World) (mg : Str → Option Value) (fa : Addr) (h : Heap), YP w h → h.Ns mainGlobals mg → mg d.name = some (.ref fa) → ∃ (K : PySem.W.Frag) (fd : FuncData) (sp : Sp), K.In h ∧ (∀ (s : Shared) (u : Value), BindsTo s fd ⟨[u], []⟩ [(x, u)]) ∧
        (∀ (H : Hp) (a : Addr) (ns : List Int), ns.length ≤ n → (∀ z ∈ ns, Builtin.Int.intBits z ≤ 1048576) → Only H → SqL K H a (ns.map V.int) → sp [.ref a] H (fun v _ => v = .bl true) fun _ _ _ => False) ∧ ∀ base : Heap, K.In base → base.Ns mainGlobals mg → FnOk l.prog w K mg base CX0 k fa fd [x] sp) :
    PySem.W.WalkO q loose XP YP l.row.toRowW d [] (fun f vs => PySem.call f vs) := by
  refine Att.attach_callB hn hdf fun w s0 s1 mg mb fa o pm cd doc a vs ns G Y ho hd hcd hmg hobj hints hlen hbits hg => ?_
  obtain ⟨K, fd, sp, KX, hb, hsp, hF⟩ := (F w mg fa _ Y G.T.g hmg)
  exact law_call KX G.T.g G.T.b G.T.builtins G.T.nolimit hg hobj hints (Nat.le_trans hlen hn2) hr hF hb (fun H hO hS => hsp H a ns hlen hbits hO hS) (fun H e s' z => z.elim)
end DL
namespace LW
open PySem PySem.Spec L2 DL
def m_lowest : Sms := (.cons (.set 2 (.bi .gcd (.cons (.var 0) (.cons (.var 1) .nil)))) (.cons (.ifs (.cmp .Lt (.var 1) (.int 0)) (.cons (.set 2 (.neg (.var 2))) .nil) .nil) (.cons (.ret (.tup (.cons (.op .FloorDiv (.var 0) (.var 2)) (.cons (.op .FloorDiv (.var 1) (.var 2)) .nil)))) .nil)))
def m_plus : Sms := (.cons (.ret (.call 7 (.cons (.op .Add (.op .Mult (.ix (.var 0) (.int 0)) (.ix (.var 1) (.int 1))) (.op .Mult (.ix (.var 1) (.int 0)) (.ix (.var 0) (.int 1)))) (.cons (.op .Mult (.ix (.var 0) (.int 1)) (.ix (.var 1) (.int 1))) .nil)))) .nil)
def m_negative : Sms := (.cons (.ret (.tup (.cons (.neg (.ix (.var 0) (.int 0))) (.cons (.ix (.var 0) (.int 1)) .nil)))) .nil)
def m_compare : Sms := (.cons (.set 2 (.op .Sub (.op .Mult (.ix (.var 0) (.int 0)) (.ix (.var 1) (.int 1))) (.op .Mult (.ix (.var 1) (.int 0)) (.ix (.var 0) (.int 1))))) (.cons (.ifs (.cmp .Eq (.var 2) (.int 0)) (.cons (.ret (.int 0)) .nil) .nil) (.cons (.ret (.ite (.cmp .Gt (.var 2) (.int 0)) (.int 1) (.neg (.int 1)))) .nil)))
def m_law_gcd : Sms := (.cons (.set 0 (.bi .abs (.cons (.var 0) .nil))) (.cons (.set 1 (.bi .abs (.cons (.var 1) .nil))) (.cons (.whl (.cmp .Gt (.var 1) (.int 0)) (.cons (.set 2 (.op .Mod (.bi .int (.cons (.var 0) .nil)) (.var 1))) (.cons (.set 0 (.var 1)) (.cons (.set 1 (.var 2)) .nil)))) (.cons (.ret (.var 0)) .nil))))
abbrev rt (p : Int × Int) : D := .tup [.int p.1, .int p.2]
def sp_negative : DSp := fun ds M _ Q => ∃ p : Int × Int, ds = [rt p] ∧ Q (rt (-p.1, p.2)) M
theorem pure_negative {Γ : Gm} : ∀ ds M E Q, ds.length = 1 → sp_negative ds M E Q → bodyD Γ 1 m_negative ds M E Q := by
  rintro ds M E Q hl ⟨p, rfl, h⟩
  simp only [bodyD, m_negative, evSs, evS, evE, evEs, ixD, atI, rt]
  exact ⟨.int p.1, rfl, .int p.2, rfl, by show 2 ≤ sizeLine; rw [sizeLine_eq]; decide, h⟩
def lowP (a b : Int) : Int × Int := let g : Int := (Nat.gcd a.natAbs b.natAbs : Nat); if b < 0 then (a.fdiv (-g), b.fdiv (-g)) else (a.fdiv g, b.fdiv g)
def sp_lowest : DSp := fun ds M _ Q => ∃ a b : Int, ds = [.int a, .int b] ∧ b ≠ 0 ∧ b.natAbs.log2 < 8000 ∧ Q (rt (lowP a b)) M
theorem pure_lowest {Γ : Gm} : ∀ ds M E Q, ds.length = 2 → sp_lowest ds M E Q → bodyD Γ 3 m_lowest ds M E Q := by
  rintro ds M E Q hl ⟨a, b, rfl, hb, hs, h⟩
  have h0 : Nat.gcd a.natAbs b.natAbs ≠ 0 := fun z => hb (Int.natAbs_eq_zero.mp (Nat.eq_zero_of_gcd_eq_zero_right z))
  have h1 : (Nat.gcd a.natAbs b.natAbs).log2 < 9000 := by
    have h2 : b.natAbs < 2 ^ 8000 := (Nat.log2_lt (by omega)).mp hs
    exact (Nat.log2_lt h0).mpr (Nat.lt_of_le_of_lt (Nat.gcd_le_right _ (by omega)) (Nat.lt_of_lt_of_le h2 (Nat.pow_le_pow_right (by decide) (by decide))))
  have hz : 2 ≤ sizeLine := by rw [sizeLine_eq]; decide
  simp [bodyD, m_lowest, evSs, evS, evE, evEs, evT, biD, cmpD, opD]
  unfold lowP rt at h
  by_cases c : b < 0
  · simp only [c, if_true] at h ⊢
    exact ⟨⟨by omega, by rw [Int.natAbs_neg]; exact h1⟩, hz, h⟩
  · simp only [c, if_false] at h ⊢
    exact ⟨⟨by omega, h1⟩, hz, h⟩
def sp_law_gcd : DSp := fun ds M _ Q => ∃ a b : Int, ds = [.int a, .int b] ∧ Q (.int (Nat.gcd a.natAbs b.natAbs : Nat)) M
def c_law_gcd : Te := .cmp .Gt (.var 1) (.int 0)
def b_law_gcd : Sms := .cons (.set 2 (.op .Mod (.bi .int (.cons (.var 0) .nil)) (.var 1))) (.cons (.set 0 (.var 1)) (.cons (.set 1 (.var 2)) .nil))
theorem ev_c {Γ : Gm} {M : Mm} {a b : Int} {r : Option D} {E : EK} {Q : Bool → Mm → Prop} (h : Q (decide (0 < b)) M) : evT Γ c_law_gcd [some (.int a), some (.int b), r] M E Q := ⟨_, rfl, h⟩
theorem ev_b {Γ : Gm} {M : Mm} {a b : Int} {r : Option D} {K : KE} (hb : 0 < b) (h : K.nx [some (.int b), some (.int (a % b)), some (.int (a % b))] M) : evSs Γ b_law_gcd [some (.int a), some (.int b), r] M K := ⟨hb, h⟩
theorem gcd_turns {Γ : Gm} {K : KE} {M : Mm} : ∀ (n a b : Nat) (r : Option D), b < n → (∀ r, K.nx [some (.int (Nat.gcd a b : Nat)), some (.int 0), r] M) → whlD (evT Γ c_law_gcd) (evSs Γ b_law_gcd) K n [some (.int a), some (.int b), r] M
  | 0, _, _, _, h, _ => by omega
  | n + 1, a, b, r, h, k => by
    refine ev_c ?_
    by_cases hb : (0 : Int) < b
    · rw [decide_eq_true hb, if_pos rfl]
      refine ev_b hb ?_
      have e : ((a : Int) % (b : Int)) = ((a % b : Nat) : Int) := by simp
      rw [e]
      refine gcd_turns n b (a % b) _ ?_ fun r => ?_
      · have := Nat.mod_lt a (show 0 < b by omega); omega
      · have z := k r
        rw [Nat.gcd_comm a b, Nat.gcd_rec b a, Nat.gcd_comm] at z
        exact z
    · have e : b = 0 := by omega
      subst e
      rw [decide_eq_false hb, if_neg Bool.false_ne_true]
      have z := k r
      rw [Nat.gcd_zero_right] at z
      exact z
theorem pure_law_gcd {Γ : Gm} : ∀ ds M E Q, ds.length = 2 → sp_law_gcd ds M E Q → bodyD Γ 3 m_law_gcd ds M E Q := by
  rintro ds M E Q hl ⟨a, b, rfl, h⟩
  have ab : ∀ i : Int, (if i < 0 then -i else i) = (i.natAbs : Int) := fun i => by split <;> omega
  refine ⟨b.natAbs + 1, ?_⟩
  show whlD (evT Γ c_law_gcd) (evSs Γ b_law_gcd) _ _ [some (.int (if a < 0 then -a else a)), some (.int (if b < 0 then -b else b)), none] M
  rw [ab, ab]
  exact gcd_turns _ _ _ _ (by omega) fun r => h
def m_minus : Sms := (.cons (.ret (.call 7 (.cons (.op .Sub (.op .Mult (.ix (.var 0) (.int 0)) (.ix (.var 1) (.int 1))) (.op .Mult (.ix (.var 1) (.int 0)) (.ix (.var 0) (.int 1)))) (.cons (.op .Mult (.ix (.var 0) (.int 1)) (.ix (.var 1) (.int 1))) .nil)))) .nil)
def m_times : Sms := (.cons (.ret (.call 7 (.cons (.op .Mult (.ix (.var 0) (.int 0)) (.ix (.var 1) (.int 0))) (.cons (.op .Mult (.ix (.var 0) (.int 1)) (.ix (.var 1) (.int 1))) .nil)))) .nil)
/-- sizes of a ratio -/
def Sz (n : Nat) (p : Int × Int) : Prop := p.1.natAbs < 2 ^ n ∧ p.2.natAbs < 2 ^ n ∧ 0 < p.2
theorem mulB_of {i j : Int} {a b : Nat} (ha : i.natAbs < 2 ^ a) (hb : j.natAbs < 2 ^ b) (h0 : 0 < a) (h1 : 0 < b) (h : a + b ≤ 1000000) : MulB i j := by
  have z := wide_mul ha hb h0 h1 h
  unfold CMulW at z
  unfold MulB
  omega
theorem mul_lt {i j : Int} {n : Nat} (ha : i.natAbs < 2 ^ n) (hb : j.natAbs < 2 ^ n) : (i * j).natAbs < 2 ^ (n + n) := wide_lt ha hb
def sumP (p q : Int × Int) : Int × Int := lowP (p.1 * q.2 + q.1 * p.2) (p.2 * q.2)
def subP (p q : Int × Int) : Int × Int := lowP (p.1 * q.2 - q.1 * p.2) (p.2 * q.2)
def mulP (p q : Int × Int) : Int × Int := lowP (p.1 * q.1) (p.2 * q.2)
def sp_plus : DSp := fun ds M _ Q => ∃ p q : Int × Int, ds = [rt p, rt q] ∧ Sz 3000 p ∧ Sz 3000 q ∧ Q (rt (sumP p q)) M
def sp_minus : DSp := fun ds M _ Q => ∃ p q : Int × Int, ds = [rt p, rt q] ∧ Sz 3000 p ∧ Sz 3000 q ∧ Q (rt (subP p q)) M
def sp_times : DSp := fun ds M _ Q => ∃ p q : Int × Int, ds = [rt p, rt q] ∧ Sz 3000 p ∧ Sz 3000 q ∧ Q (rt (mulP p q)) M
theorem low_call {Γ : Gm} (hΓ : Γ.gv 7 = .fn 2 sp_lowest []) {a b : Int} {M : Mm} {E : EK} {Q : QD} (hb : b ≠ 0) (hs : b.natAbs.log2 < 8000) (h : Q (rt (lowP a b)) M) : callD (Γ.gv 7) 2 [.int a, .int b] M E Q := by
  rw [hΓ]
  exact ⟨Nat.le_refl _, Nat.le_refl _, rfl, a, b, rfl, hb, hs, h⟩
section
variable {p q : Int × Int} (hp : Sz 3000 p) (hq : Sz 3000 q)
include hp hq
theorem den_ne : p.2 * q.2 ≠ 0 := Int.ne_of_gt (Int.mul_pos hp.2.2 hq.2.2)
theorem den_sz : (p.2 * q.2).natAbs.log2 < 8000 := by
  have z := mul_lt hp.2.1 hq.2.1
  have n0 : (p.2 * q.2).natAbs ≠ 0 := fun z => den_ne hp hq (Int.natAbs_eq_zero.mp z)
  exact (Nat.log2_lt n0).mpr (Nat.lt_of_lt_of_le z (Nat.pow_le_pow_right (by decide) (by decide)))
theorem m12 : MulB p.1 q.2 := mulB_of hp.1 hq.2.1 (by decide) (by decide) (by decide)
theorem m21 : MulB q.1 p.2 := mulB_of hq.1 hp.2.1 (by decide) (by decide) (by decide)
theorem m22 : MulB p.2 q.2 := mulB_of hp.2.1 hq.2.1 (by decide) (by decide) (by decide)
theorem m11 : MulB p.1 q.1 := mulB_of hp.1 hq.1 (by decide) (by decide) (by decide)
end
theorem pure_plus {Γ : Gm} (hΓ : Γ.gv 7 = .fn 2 sp_lowest []) : ∀ ds M E Q, ds.length = 2 → sp_plus ds M E Q → bodyD Γ 2 m_plus ds M E Q := by
  rintro ds M E Q hl ⟨p, q, rfl, hp, hq, h⟩
  exact ⟨.int p.1, rfl, .int q.2, rfl, m12 hp hq, .int q.1, rfl, .int p.2, rfl, m21 hp hq, .int p.2, rfl, .int q.2, rfl, m22 hp hq, low_call hΓ (den_ne hp hq) (den_sz hp hq) h⟩
theorem pure_minus {Γ : Gm} (hΓ : Γ.gv 7 = .fn 2 sp_lowest []) : ∀ ds M E Q, ds.length = 2 → sp_minus ds M E Q → bodyD Γ 2 m_minus ds M E Q := by
  rintro ds M E Q hl ⟨p, q, rfl, hp, hq, h⟩
  exact ⟨.int p.1, rfl, .int q.2, rfl, m12 hp hq, .int q.1, rfl, .int p.2, rfl, m21 hp hq, .int p.2, rfl, .int q.2, rfl, m22 hp hq, low_call hΓ (den_ne hp hq) (den_sz hp hq) h⟩
theorem pure_times {Γ : Gm} (hΓ : Γ.gv 7 = .fn 2 sp_lowest []) : ∀ ds M E Q, ds.length = 2 → sp_times ds M E Q → bodyD Γ 2 m_times ds M E Q := by
  rintro ds M E Q hl ⟨p, q, rfl, hp, hq, h⟩
  exact ⟨.int p.1, rfl, .int q.1, rfl, m11 hp hq, .int p.2, rfl, .int q.2, rfl, m22 hp hq, low_call hΓ (den_ne hp hq) (den_sz hp hq) h⟩
def cmpP (p q : Int × Int) : Int := if p.1 * q.2 - q.1 * p.2 = 0 then 0 else if 0 < p.1 * q.2 - q.1 * p.2 then 1 else -1
def sp_compare : DSp := fun ds M _ Q => ∃ p q : Int × Int, ds = [rt p, rt q] ∧ Sz 3000 p ∧ Sz 3000 q ∧ Q (.int (cmpP p q)) M
theorem pure_compare {Γ : Gm} : ∀ ds M E Q, ds.length = 2 → sp_compare ds M E Q → bodyD Γ 3 m_compare ds M E Q := by
  rintro ds M E Q hl ⟨p, q, rfl, hp, hq, h⟩
  refine ⟨.int p.1, rfl, .int q.2, rfl, m12 hp hq, .int q.1, rfl, .int p.2, rfl, m21 hp hq, ?_⟩
  refine ⟨_, rfl, ?_⟩
  have e : PyData.eqv (PyData.int (p.1 * q.2 - q.1 * p.2)) (PyData.int 0) = decide (p.1 * q.2 - q.1 * p.2 = 0) := by
    first | rfl | simp [PyData.eqv]
  unfold cmpP at h
  generalize p.1 * q.2 - q.1 * p.2 = g at e h ⊢
  show if PyData.eqv (PyData.int g) (PyData.int 0) = true then Q (.int 0) M else ∃ c, some (decide ((0 : Int) < g)) = some c ∧ (if c = true then Q (.int 1) M else Q (.int (-1)) M)
  rw [e]
  by_cases z : g = 0
  · rw [decide_eq_true z, if_pos rfl]
    rw [if_pos z] at h
    exact h
  · rw [decide_eq_false z, if_neg Bool.false_ne_true]
    rw [if_neg z] at h
    refine ⟨_, rfl, ?_⟩
    by_cases y : 0 < g
    · rw [decide_eq_true y, if_pos rfl]; rw [if_pos y] at h; exact h
    · rw [decide_eq_false y, if_neg Bool.false_ne_true]; rw [if_neg y] at h; exact h
def m_over : Sms := (.cons (.ifs (.cmp .Eq (.ix (.var 1) (.int 0)) (.int 0)) (.cons (.raise 1 (.cons (.str "zero") .nil)) .nil) .nil) (.cons (.ret (.call 7 (.cons (.op .Mult (.ix (.var 0) (.int 0)) (.ix (.var 1) (.int 1))) (.cons (.op .Mult (.ix (.var 0) (.int 1)) (.ix (.var 1) (.int 0))) .nil)))) .nil))
def m_is_whole : Sms := (.cons (.ifs (.bop .Or (.cons (.not (.val (.bi .isi (.cons (.var 0) (.cons (.tyn .int) .nil))))) (.cons (.val (.bi .isi (.cons (.var 0) (.cons (.tyn .bool) .nil)))) .nil))) (.cons (.ret (.bl false)) .nil) .nil) (.cons (.ret (.bop .And (.cons (.bop .Or (.cons (.cmp .Is (.var 1) .non) (.cons (.cmp .GtE (.var 0) (.var 1)) .nil))) (.cons (.bop .Or (.cons (.cmp .Is (.var 2) .non) (.cons (.cmp .LtE (.var 0) (.var 2)) .nil))) .nil)))) .nil))
def m_is_ratio : Sms := (.cons (.ifs (.bop .Or (.cons (.not (.val (.bi .isi (.cons (.var 0) (.cons (.tyn .tuple) .nil))))) (.cons (.cmp .NotEq (.bi .len (.cons (.var 0) .nil)) (.int 2)) .nil))) (.cons (.ret (.bl false)) .nil) .nil) (.cons (.ret (.bop .And (.cons (.call 4 (.cons (.ix (.var 0) (.int 0)) .nil)) (.cons (.call 4 (.cons (.ix (.var 0) (.int 1)) (.cons (.int 1) .nil))) (.cons (.cmp .Eq (.bi .gcd (.cons (.ix (.var 0) (.int 0)) (.cons (.ix (.var 0) (.int 1)) .nil))) (.int 1)) .nil))))) .nil))
def sp_over (C : Addr) : DSp := fun ds M E Q => ∃ p q : Int × Int, ds = [rt p, rt q] ∧ Sz 3000 p ∧ Sz 3000 q ∧
  ((q.1 = 0 ∧ ∀ dd, M dd = none → E ⟨C, some dd⟩ (M.put dd (.exd [("what", .str "zero")]))) ∨ (q.1 ≠ 0 ∧ Q (rt (lowP (p.1 * q.2) (p.2 * q.1))) M))
theorem pure_over {Γ : Gm} {C : Addr} (hΓ : Γ.gv 7 = .fn 2 sp_lowest []) (h1 : Γ.gv 1 = .err C ["what"] [0]) : ∀ ds M E Q, ds.length = 2 → sp_over C ds M E Q → bodyD Γ 2 m_over ds M E Q := by
  rintro ds M E Q hl ⟨p, q, rfl, hp, hq, h⟩
  have m3 : MulB p.2 q.1 := mulB_of hp.2.1 hq.1 (by decide) (by decide) (by decide)
  refine ⟨.int q.1, rfl, _, rfl, ?_⟩
  have e : PyData.eqv (PyData.int q.1) (PyData.int 0) = decide (q.1 = 0) := by
    first | rfl | simp [PyData.eqv]
  rw [e]
  rcases h with ⟨z, h⟩ | ⟨z, h⟩
  · rw [decide_eq_true z]
    refine iteT ?_
    refine ⟨by rw [h1]; trivial, ?_⟩
    show raiseD Γ 1 [.str "zero"] M _
    unfold raiseD
    rw [h1]
    have n1 : (["what"] : List Str) ≠ [] := List.cons_ne_nil _ _
    have n2 : ∀ i ∈ [0], ∃ d, ([.str "zero"] : List D)[i]? = some d ∧ TxtD d := fun i hi => by
      have e : i = 0 := by simpa using hi
      subst e
      exact ⟨.str "zero", rfl, by show (("zero" : Str).length ≤ 1000); decide⟩
    exact ⟨n1, rfl, n2, h⟩
  · rw [decide_eq_false z]
    refine iteF ?_
    have hd : p.2 * q.1 ≠ 0 := fun y => by
      rcases Int.mul_eq_zero.mp y with y | y
      · have := hp.2.2; omega
      · exact z y
    have hs : (p.2 * q.1).natAbs.log2 < 8000 := by
      have z := mul_lt hp.2.1 hq.1
      exact (Nat.log2_lt (fun y => hd (Int.natAbs_eq_zero.mp y))).mpr (Nat.lt_of_lt_of_le z (Nat.pow_le_pow_right (by decide) (by decide)))
    exact ⟨.int p.1, rfl, .int q.2, rfl, m12 hp hq, .int p.2, rfl, .int q.1, rfl, m3, low_call hΓ hd hs h⟩
def m_least_of : Sms := (.cons (.set 1 (.ix (.var 0) (.int 0))) (.cons (.fo (.nm 2) (.seq (.var 0)) (.cons (.ifs (.cmp .Lt (.call 13 (.cons (.var 2) (.cons (.var 1) .nil))) (.int 0)) (.cons (.set 1 (.var 2)) .nil) .nil) .nil)) (.cons (.ret (.var 1)) .nil)))
def stepL (l o : Int × Int) : Int × Int := if cmpP o l < 0 then o else l
def b_least : Sms := .cons (.ifs (.cmp .Lt (.call 13 (.cons (.var 2) (.cons (.var 1) .nil))) (.int 0)) (.cons (.set 1 (.var 2)) .nil) .nil) .nil
theorem cmp_call {Γ : Gm} (hΓ : Γ.gv 13 = .fn 2 sp_compare []) {p q : Int × Int} {M : Mm} {E : EK} {Q : QD} (hp : Sz 3000 p) (hq : Sz 3000 q) (h : Q (.int (cmpP p q)) M) : callD (Γ.gv 13) 2 [rt p, rt q] M E Q := by
  rw [hΓ]
  exact ⟨Nat.le_refl _, Nat.le_refl _, rfl, p, q, rfl, hp, hq, h⟩
theorem ev_bl {Γ : Gm} (hΓ : Γ.gv 13 = .fn 2 sp_compare []) {M : Mm} {d : Option D} {l o : Int × Int} {K : KE} (hl : Sz 3000 l) (ho : Sz 3000 o) (h : K.nx [d, some (rt (stepL l o)), some (rt o)] M) : evSs Γ b_least [d, some (rt l), some (rt o)] M K := by
  refine cmp_call hΓ ho hl ⟨_, rfl, ?_⟩
  unfold stepL at h
  by_cases c : cmpP o l < 0
  · rw [decide_eq_true c]
    refine iteT ?_
    rw [if_pos c] at h
    exact h
  · rw [decide_eq_false c]
    refine iteF ?_
    rw [if_neg c] at h
    exact h
theorem least_turns {Γ : Gm} (hΓ : Γ.gv 13 = .fn 2 sp_compare []) {M : Mm} {G : Mm → Prop} {d : Option D} {K : KE} (hG : G M) : ∀ (ps : List (Int × Int)) (l : Int × Int) (o : Option D), Sz 3000 l → (∀ p ∈ ps, Sz 3000 p) → (∀ o, K.nx [d, some (rt (ps.foldl stepL l)), o] M) → forD G (.nm 2) (evSs Γ b_least) K (ps.map rt) [d, some (rt l), o] M
  | [], l, o, _, _, k => ⟨hG, k o⟩
  | p :: ps, l, o, hl, hp, k => by
    refine ⟨hG, ?_⟩
    refine ev_bl hΓ hl (hp p List.mem_cons_self) ?_
    refine least_turns hΓ hG ps _ _ ?_ (fun q hq => hp q (List.mem_cons_of_mem _ hq)) k
    unfold stepL
    split
    · exact hp p List.mem_cons_self
    · exact hl
theorem atI0 {α : Type} (x : α) (xs : List α) : atI (x :: xs) 0 = some x := by
  have e : ixN (x :: xs).length 0 = some 0 := by unfold ixN; simp
  unfold atI
  rw [e]
  rfl
/-- a row of ratios, list or tuple -/
def Row (M : Mm) (d : D) (ps : List (Int × Int)) : Prop := d = .tup (ps.map rt) ∨ ∃ a, d = .ref a ∧ (M a = some (.lst (ps.map rt)) ∨ M a = some (.rol (ps.map rt)))
def sp_least_of : DSp := fun ds M _ Q => ∃ d p ps, ds = [d] ∧ Row M d (p :: ps) ∧ (∀ q ∈ p :: ps, Sz 3000 q) ∧ Q (rt ((p :: ps).foldl stepL p)) M
theorem pure_least_of {Γ : Gm} (hΓ : Γ.gv 13 = .fn 2 sp_compare []) : ∀ ds M E Q, ds.length = 1 → sp_least_of ds M E Q → bodyD Γ 3 m_least_of ds M E Q := by
  rintro ds M E Q hl ⟨d, p, ps, rfl, hr, hs, h⟩
  have h0 := hs p List.mem_cons_self
  rcases hr with rfl | ⟨a, rfl, hm⟩
  · exact ⟨rt p, atI0 _ _, least_turns (G := fun _ => True) hΓ trivial (p :: ps) p none h0 hs fun o => h⟩
  · exact ⟨_, hm, rt p, atI0 _ _, _, hm, least_turns (G := fun M => M a = some (.lst ((p :: ps).map rt)) ∨ M a = some (.rol ((p :: ps).map rt))) hΓ hm (p :: ps) p none h0 hs fun o => h⟩
def m_law_ratio : Sms := (.cons (.set 2 (.call 22 (.cons (.var 0) (.cons (.var 1) .nil)))) (.cons (.ifs (.cmp .Lt (.var 1) (.int 0)) (.cons (.set 2 (.neg (.var 2))) .nil) .nil) (.cons (.ret (.tup (.cons (.op .FloorDiv (.var 0) (.var 2)) (.cons (.op .FloorDiv (.var 1) (.var 2)) .nil)))) .nil)))
def m_law_plus : Sms := (.cons (.ret (.call 23 (.cons (.op .Add (.op .Mult (.ix (.var 0) (.int 0)) (.ix (.var 1) (.int 1))) (.op .Mult (.ix (.var 1) (.int 0)) (.ix (.var 0) (.int 1)))) (.cons (.op .Mult (.ix (.var 0) (.int 1)) (.ix (.var 1) (.int 1))) .nil)))) .nil)
def m_law_minus : Sms := (.cons (.ret (.call 23 (.cons (.op .Sub (.op .Mult (.ix (.var 0) (.int 0)) (.ix (.var 1) (.int 1))) (.op .Mult (.ix (.var 1) (.int 0)) (.ix (.var 0) (.int 1)))) (.cons (.op .Mult (.ix (.var 0) (.int 1)) (.ix (.var 1) (.int 1))) .nil)))) .nil)
def m_law_times : Sms := (.cons (.ret (.call 23 (.cons (.op .Mult (.ix (.var 0) (.int 0)) (.ix (.var 1) (.int 0))) (.cons (.op .Mult (.ix (.var 0) (.int 1)) (.ix (.var 1) (.int 1))) .nil)))) .nil)
theorem gcd_div {a b : Int} (hb : b ≠ 0) (hs : b.natAbs.log2 < 8000) : ((Nat.gcd a.natAbs b.natAbs : Nat) : Int) ≠ 0 ∧ (Nat.gcd a.natAbs b.natAbs).log2 < 9000 := by
  have h0 : Nat.gcd a.natAbs b.natAbs ≠ 0 := fun z => hb (Int.natAbs_eq_zero.mp (Nat.eq_zero_of_gcd_eq_zero_right z))
  have h2 : b.natAbs < 2 ^ 8000 := (Nat.log2_lt (by omega)).mp hs
  exact ⟨by omega, (Nat.log2_lt h0).mpr (Nat.lt_of_le_of_lt (Nat.gcd_le_right _ (by omega)) (Nat.lt_of_lt_of_le h2 (Nat.pow_le_pow_right (by decide) (by decide))))⟩
theorem pure_law_ratio {Γ : Gm} (hΓ : Γ.gv 22 = .fn 2 sp_law_gcd []) : ∀ ds M E Q, ds.length = 2 → sp_lowest ds M E Q → bodyD Γ 3 m_law_ratio ds M E Q := by
  rintro ds M E Q hl ⟨a, b, rfl, hb, hs, h⟩
  obtain ⟨g0, g1⟩ := gcd_div (a := a) hb hs
  have hz : 2 ≤ sizeLine := by rw [sizeLine_eq]; decide
  unfold lowP rt at h
  show callD (Γ.gv 22) 2 [.int a, .int b] M E _
  rw [hΓ]
  refine ⟨Nat.le_refl _, Nat.le_refl _, rfl, a, b, rfl, ?_⟩
  generalize Nat.gcd a.natAbs b.natAbs = g at g0 g1 h ⊢
  refine ⟨_, rfl, ?_⟩
  by_cases c : b < 0
  · rw [decide_eq_true c]
    refine iteT ?_
    simp only [c, if_true] at h
    exact ⟨⟨by omega, by rw [Int.natAbs_neg]; exact g1⟩, ⟨by omega, by rw [Int.natAbs_neg]; exact g1⟩, hz, h⟩
  · rw [decide_eq_false c]
    refine iteF ?_
    simp only [c, if_false] at h
    exact ⟨⟨by omega, g1⟩, ⟨by omega, g1⟩, hz, h⟩
theorem ratio_call {Γ : Gm} (hΓ : Γ.gv 23 = .fn 2 sp_lowest []) {a b : Int} {M : Mm} {E : EK} {Q : QD} (hb : b ≠ 0) (hs : b.natAbs.log2 < 8000) (h : Q (rt (lowP a b)) M) : callD (Γ.gv 23) 2 [.int a, .int b] M E Q := by
  rw [hΓ]
  exact ⟨Nat.le_refl _, Nat.le_refl _, rfl, a, b, rfl, hb, hs, h⟩
theorem pure_law_plus {Γ : Gm} (hΓ : Γ.gv 23 = .fn 2 sp_lowest []) : ∀ ds M E Q, ds.length = 2 → sp_plus ds M E Q → bodyD Γ 2 m_law_plus ds M E Q := by
  rintro ds M E Q hl ⟨p, q, rfl, hp, hq, h⟩
  exact ⟨.int p.1, rfl, .int q.2, rfl, m12 hp hq, .int q.1, rfl, .int p.2, rfl, m21 hp hq, .int p.2, rfl, .int q.2, rfl, m22 hp hq, ratio_call hΓ (den_ne hp hq) (den_sz hp hq) h⟩
theorem pure_law_minus {Γ : Gm} (hΓ : Γ.gv 23 = .fn 2 sp_lowest []) : ∀ ds M E Q, ds.length = 2 → sp_minus ds M E Q → bodyD Γ 2 m_law_minus ds M E Q := by
  rintro ds M E Q hl ⟨p, q, rfl, hp, hq, h⟩
  exact ⟨.int p.1, rfl, .int q.2, rfl, m12 hp hq, .int q.1, rfl, .int p.2, rfl, m21 hp hq, .int p.2, rfl, .int q.2, rfl, m22 hp hq, ratio_call hΓ (den_ne hp hq) (den_sz hp hq) h⟩
theorem pure_law_times {Γ : Gm} (hΓ : Γ.gv 23 = .fn 2 sp_lowest []) : ∀ ds M E Q, ds.length = 2 → sp_times ds M E Q → bodyD Γ 2 m_law_times ds M E Q := by
  rintro ds M E Q hl ⟨p, q, rfl, hp, hq, h⟩
  exact ⟨.int p.1, rfl, .int q.1, rfl, m11 hp hq, .int p.2, rfl, .int q.2, rfl, m22 hp hq, ratio_call hΓ (den_ne hp hq) (den_sz hp hq) h⟩
def m_law_compare : Sms := (.cons (.set 2 (.op .Mult (.ix (.var 0) (.int 0)) (.ix (.var 1) (.int 1)))) (.cons (.set 3 (.op .Mult (.ix (.var 1) (.int 0)) (.ix (.var 0) (.int 1)))) (.cons (.ret (.ite (.cmp .Lt (.var 2) (.var 3)) (.neg (.int 1)) (.ite (.cmp .Gt (.var 2) (.var 3)) (.int 1) (.int 0)))) .nil)))
def m_law_lesser : Sms := (.cons (.ret (.ite (.cmp .LtE (.call 27 (.cons (.var 0) (.cons (.var 1) .nil))) (.int 0)) (.var 0) (.var 1))) .nil)
def m_greatest_of : Sms := (.cons (.set 1 (.ix (.var 0) (.int 0))) (.cons (.fo (.nm 2) (.seq (.var 0)) (.cons (.ifs (.cmp .Gt (.call 13 (.cons (.var 2) (.cons (.var 1) .nil))) (.int 0)) (.cons (.set 1 (.var 2)) .nil) .nil) .nil)) (.cons (.ret (.var 1)) .nil)))
theorem pure_law_compare {Γ : Gm} : ∀ ds M E Q, ds.length = 2 → sp_compare ds M E Q → bodyD Γ 4 m_law_compare ds M E Q := by
  rintro ds M E Q hl ⟨p, q, rfl, hp, hq, h⟩
  refine ⟨.int p.1, rfl, .int q.2, rfl, m12 hp hq, .int q.1, rfl, .int p.2, rfl, m21 hp hq, ?_⟩
  unfold cmpP at h
  generalize p.1 * q.2 = x at h ⊢
  generalize q.1 * p.2 = y at h ⊢
  refine ⟨_, rfl, ?_⟩
  by_cases c : x < y
  · rw [decide_eq_true c]
    refine iteT ?_
    rw [if_neg (by omega), if_neg (by omega)] at h
    exact h
  · rw [decide_eq_false c]
    refine iteF ⟨_, rfl, ?_⟩
    by_cases c2 : y < x
    · rw [decide_eq_true c2]
      refine iteT ?_
      rw [if_neg (by omega), if_pos (by omega)] at h
      exact h
    · rw [decide_eq_false c2]
      refine iteF ?_
      rw [if_pos (by omega)] at h
      exact h
theorem lcmp_call {Γ : Gm} (hΓ : Γ.gv 27 = .fn 2 sp_compare []) {p q : Int × Int} {M : Mm} {E : EK} {Q : QD} (hp : Sz 3000 p) (hq : Sz 3000 q) (h : Q (.int (cmpP p q)) M) : callD (Γ.gv 27) 2 [rt p, rt q] M E Q := by
  rw [hΓ]
  exact ⟨Nat.le_refl _, Nat.le_refl _, rfl, p, q, rfl, hp, hq, h⟩
def lesP (p q : Int × Int) : Int × Int := if cmpP p q ≤ 0 then p else q
def sp_lesser : DSp := fun ds M _ Q => ∃ p q : Int × Int, ds = [rt p, rt q] ∧ Sz 3000 p ∧ Sz 3000 q ∧ Q (rt (lesP p q)) M
theorem pure_law_lesser {Γ : Gm} (hΓ : Γ.gv 27 = .fn 2 sp_compare []) : ∀ ds M E Q, ds.length = 2 → sp_lesser ds M E Q → bodyD Γ 2 m_law_lesser ds M E Q := by
  rintro ds M E Q hl ⟨p, q, rfl, hp, hq, h⟩
  refine lcmp_call hΓ hp hq ⟨_, rfl, ?_⟩
  unfold lesP at h
  by_cases c : cmpP p q ≤ 0
  · rw [decide_eq_true c]
    refine iteT ?_
    rw [if_pos c] at h
    exact h
  · rw [decide_eq_false c]
    refine iteF ?_
    rw [if_neg c] at h
    exact h
def stepG (l o : Int × Int) : Int × Int := if 0 < cmpP o l then o else l
def b_greatest : Sms := .cons (.ifs (.cmp .Gt (.call 13 (.cons (.var 2) (.cons (.var 1) .nil))) (.int 0)) (.cons (.set 1 (.var 2)) .nil) .nil) .nil
theorem ev_bg {Γ : Gm} (hΓ : Γ.gv 13 = .fn 2 sp_compare []) {M : Mm} {d : Option D} {l o : Int × Int} {K : KE} (hl : Sz 3000 l) (ho : Sz 3000 o) (h : K.nx [d, some (rt (stepG l o)), some (rt o)] M) : evSs Γ b_greatest [d, some (rt l), some (rt o)] M K := by
  refine cmp_call hΓ ho hl ⟨_, rfl, ?_⟩
  unfold stepG at h
  by_cases c : 0 < cmpP o l
  · rw [decide_eq_true c]
    refine iteT ?_
    rw [if_pos c] at h
    exact h
  · rw [decide_eq_false c]
    refine iteF ?_
    rw [if_neg c] at h
    exact h
theorem greatest_turns {Γ : Gm} (hΓ : Γ.gv 13 = .fn 2 sp_compare []) {M : Mm} {G : Mm → Prop} {d : Option D} {K : KE} (hG : G M) : ∀ (ps : List (Int × Int)) (l : Int × Int) (o : Option D), Sz 3000 l → (∀ p ∈ ps, Sz 3000 p) → (∀ o, K.nx [d, some (rt (ps.foldl stepG l)), o] M) → forD G (.nm 2) (evSs Γ b_greatest) K (ps.map rt) [d, some (rt l), o] M
  | [], l, o, _, _, k => ⟨hG, k o⟩
  | p :: ps, l, o, hl, hp, k => by
    refine ⟨hG, ev_bg hΓ hl (hp p List.mem_cons_self) (greatest_turns hΓ hG ps _ _ ?_ (fun q hq => hp q (List.mem_cons_of_mem _ hq)) k)⟩
    unfold stepG
    split
    · exact hp p List.mem_cons_self
    · exact hl
def sp_greatest_of : DSp := fun ds M _ Q => ∃ d p ps, ds = [d] ∧ Row M d (p :: ps) ∧ (∀ q ∈ p :: ps, Sz 3000 q) ∧ Q (rt ((p :: ps).foldl stepG p)) M
theorem pure_greatest_of {Γ : Gm} (hΓ : Γ.gv 13 = .fn 2 sp_compare []) : ∀ ds M E Q, ds.length = 1 → sp_greatest_of ds M E Q → bodyD Γ 3 m_greatest_of ds M E Q := by
  rintro ds M E Q hl ⟨d, p, ps, rfl, hr, hs, h⟩
  have h0 := hs p List.mem_cons_self
  rcases hr with rfl | ⟨a, rfl, hm⟩
  · exact ⟨rt p, atI0 _ _, greatest_turns (G := fun _ => True) hΓ trivial (p :: ps) p none h0 hs fun o => h⟩
  · exact ⟨_, hm, rt p, atI0 _ _, _, hm, greatest_turns (G := fun M => M a = some (.lst ((p :: ps).map rt)) ∨ M a = some (.rol ((p :: ps).map rt))) hΓ hm (p :: ps) p none h0 hs fun o => h⟩
def m_law_mix : Sms := (.cons (.set 2 (.op .Mod (.bi .int (.cons (.op .Add (.op .Add (.op .Mult (.var 0) (.int 48271)) (.op .Mult (.var 1) (.int 16807))) (.int 11)) .nil)) (.int 2147483647))) (.cons (.set 3 (.op .Mod (.bi .int (.cons (.op .Add (.op .Add (.op .Mult (.var 2) (.var 2)) (.op .Mult (.op .FloorDiv (.var 2) (.int 127)) (.int 40692))) (.op .Mult (.var 1) (.int 69621))) .nil)) (.int 2147483399))) (.cons (.ret (.op .FloorDiv (.op .Mod (.bi .int (.cons (.op .Add (.op .FloorDiv (.op .Mult (.var 3) (.var 3)) (.int 1009)) (.var 2)) .nil)) (.int 2147483563)) (.int 16))) .nil)))
/-! ### the hand that draws: the same in every law -/
def onceP (n t : Int) : Int := (n * 48271 + t * 16807 + 11) % 2147483647
def twiceP (n t : Int) : Int := (onceP n t * onceP n t + (onceP n t).fdiv 127 * 40692 + t * 69621) % 2147483399
def mixP (n t : Int) : Int := (((twiceP n t * twiceP n t).fdiv 1009 + onceP n t) % 2147483563).fdiv 16
theorem m64 {i j : Int} (hi : i.natAbs < 2 ^ 64) (hj : j.natAbs < 2 ^ 64) : MulB i j := mulB_of hi hj (by decide) (by decide) (by decide)
theorem mod_sm {i j : Int} (h0 : 0 < j) (h1 : j < 2 ^ 64) : (i % j).natAbs < 2 ^ 64 := by
  have a := Int.emod_nonneg i (show j ≠ 0 by omega)
  have b := Int.emod_lt_of_pos i h0
  omega
def sp_mix : DSp := fun ds M _ Q => ∃ n t : Int, ds = [.int n, .int t] ∧ n.natAbs < 2 ^ 64 ∧ t.natAbs < 2 ^ 64 ∧ Q (.int (mixP n t)) M
theorem pure_law_mix {Γ : Gm} : ∀ ds M E Q, ds.length = 2 → sp_mix ds M E Q → bodyD Γ 4 m_law_mix ds M E Q := by
  rintro ds M E Q hl ⟨n, t, rfl, hn, ht, h⟩
  have o : (onceP n t).natAbs < 2 ^ 64 := mod_sm (by decide) (by decide)
  have w : (twiceP n t).natAbs < 2 ^ 64 := mod_sm (by decide) (by decide)
  have o0 : 0 ≤ onceP n t := Int.emod_nonneg _ (by decide)
  have o1 : onceP n t < 2147483647 := Int.emod_lt_of_pos _ (by decide)
  have f : ((onceP n t).fdiv 127).natAbs < 2 ^ 64 := by
    rw [Int.fdiv_eq_ediv_of_nonneg _ (by decide)]
    omega
  exact ⟨m64 hn (by decide), m64 ht (by decide), by decide, m64 o o, ⟨by decide, by decide⟩, m64 f (by decide), m64 ht (by decide), by decide, m64 w w, ⟨by decide, by decide⟩, by decide, ⟨by decide, by decide⟩, h⟩
end LW
namespace LW
open PySem PySem.Spec L2 DL
def Red (p : Int × Int) : Prop := 0 < p.2 ∧ Nat.gcd p.1.natAbs p.2.natAbs = 1
def val (p : Int × Int) : Rat := Rat.divInt p.1 p.2
theorem lowP_parts {a b : Int} (hb : b ≠ 0) : ∃ s : Int, s ≠ 0 ∧ (lowP a b).1 * s = a ∧ (lowP a b).2 * s = b ∧ Red (lowP a b) := by
  have h0 : Nat.gcd a.natAbs b.natAbs ≠ 0 := fun z => hb (Int.natAbs_eq_zero.mp (Nat.eq_zero_of_gcd_eq_zero_right z))
  have da : ((Nat.gcd a.natAbs b.natAbs : Nat) : Int) ∣ a := Int.ofNat_dvd_left.mpr (Nat.gcd_dvd_left _ _)
  have db : ((Nat.gcd a.natAbs b.natAbs : Nat) : Int) ∣ b := Int.ofNat_dvd_left.mpr (Nat.gcd_dvd_right _ _)
  have key : ∀ s q1 q2 : Int, s.natAbs = Nat.gcd a.natAbs b.natAbs → q1 * s = a → q2 * s = b → Nat.gcd q1.natAbs q2.natAbs = 1 := fun s q1 q2 hs h1 h2 => by
    have e : Nat.gcd (q1.natAbs * s.natAbs) (q2.natAbs * s.natAbs) = s.natAbs := by
      rw [← Int.natAbs_mul, ← Int.natAbs_mul, h1, h2, hs]
    rw [Nat.gcd_mul_right] at e
    have p : 0 < s.natAbs := by omega
    exact Nat.eq_of_mul_eq_mul_right p (by rw [e, Nat.one_mul])
  unfold lowP
  generalize hg : Nat.gcd a.natAbs b.natAbs = g at h0 da db key
  by_cases c : b < 0
  · have na : (-(g : Int)) ∣ a := Int.neg_dvd.mpr da
    have nb : (-(g : Int)) ∣ b := Int.neg_dvd.mpr db
    simp only [c, if_true]
    rw [Int.fdiv_eq_ediv_of_dvd na, Int.fdiv_eq_ediv_of_dvd nb]
    have e1 := Int.ediv_mul_cancel na
    have e2 := Int.ediv_mul_cancel nb
    refine ⟨-(g : Int), by omega, e1, e2, ?_, key (-(g : Int)) _ _ (by omega) e1 e2⟩
    show 0 < b / -(g : Int)
    have : ¬ (b / -(g : Int) ≤ 0) := fun z => by
      have := Int.mul_nonneg_of_nonpos_of_nonpos z (show -(g : Int) ≤ 0 by omega)
      omega
    omega
  · simp only [c, if_false]
    rw [Int.fdiv_eq_ediv_of_dvd da, Int.fdiv_eq_ediv_of_dvd db]
    have e1 := Int.ediv_mul_cancel da
    have e2 := Int.ediv_mul_cancel db
    refine ⟨(g : Int), by omega, e1, e2, ?_, key (g : Int) _ _ (by omega) e1 e2⟩
    show 0 < b / (g : Int)
    have : ¬ (b / (g : Int) ≤ 0) := fun z => by
      have := Int.mul_nonpos_of_nonpos_of_nonneg z (show (0 : Int) ≤ (g : Int) by omega)
      omega
    omega
theorem lowP_red {a b : Int} (hb : b ≠ 0) : Red (lowP a b) := by
  obtain ⟨s, _, _, _, r⟩ := lowP_parts (a := a) hb
  exact r
theorem val_lowP {a b : Int} (hb : b ≠ 0) : val (lowP a b) = Rat.divInt a b := by
  obtain ⟨s, s0, h1, h2, r⟩ := lowP_parts (a := a) hb
  unfold val
  rw [Rat.divInt_eq_divInt_iff (by have := r.1; omega) hb]
  generalize (lowP a b).1 = x at h1 ⊢
  generalize (lowP a b).2 = y at h2 ⊢
  subst h1 h2
  rw [Int.mul_comm y s, ← Int.mul_assoc]
theorem red_mk {p : Int × Int} (r : Red p) : ∃ (h1 : p.2.toNat ≠ 0) (h2 : p.1.natAbs.Coprime p.2.toNat), val p = ⟨p.1, p.2.toNat, h1, h2⟩ := by
  obtain ⟨r1, r2⟩ := r
  have e : p.2.natAbs = p.2.toNat := by omega
  rw [e] at r2
  refine ⟨by omega, r2, ?_⟩
  rw [Rat.mk_eq_divInt]
  unfold val
  rw [Int.toNat_of_nonneg (by omega)]
theorem red_inj {p q : Int × Int} (rp : Red p) (rq : Red q) (h : val p = val q) : p = q := by
  obtain ⟨_, _, e1⟩ := red_mk rp
  obtain ⟨_, _, e2⟩ := red_mk rq
  rw [e1, e2] at h
  have a := congrArg Rat.num h
  have b := congrArg Rat.den h
  simp only at a b
  have := rp.1; have := rq.1
  exact Prod.ext a (by omega)
theorem low_red {p : Int × Int} (r : Red p) : lowP p.1 p.2 = p := red_inj (lowP_red (by have := r.1; omega)) r (val_lowP (by have := r.1; omega))
theorem lowP_one (a : Int) : lowP a 1 = (a, 1) := low_red (p := (a, 1)) ⟨by show (0 : Int) < 1; decide, by show Nat.gcd a.natAbs 1 = 1; simp⟩
theorem den_mul {p q : Int × Int} (hp : 0 < p.2) (hq : 0 < q.2) : p.2 * q.2 ≠ 0 := Int.ne_of_gt (Int.mul_pos hp hq)
theorem val_sumP {p q : Int × Int} (hp : 0 < p.2) (hq : 0 < q.2) : val (sumP p q) = val p + val q := by
  unfold sumP
  rw [val_lowP (den_mul hp hq)]
  unfold val
  rw [Rat.divInt_add_divInt _ _ (by omega) (by omega)]
theorem sumP_red {p q : Int × Int} (hp : 0 < p.2) (hq : 0 < q.2) : Red (sumP p q) := lowP_red (den_mul hp hq)
theorem subP_red {p q : Int × Int} (hp : 0 < p.2) (hq : 0 < q.2) : Red (subP p q) := lowP_red (den_mul hp hq)
theorem mulP_red {p q : Int × Int} (hp : 0 < p.2) (hq : 0 < q.2) : Red (mulP p q) := lowP_red (den_mul hp hq)
theorem neg_red {p : Int × Int} (r : Red p) : Red (-p.1, p.2) := ⟨r.1, by show Nat.gcd (-p.1).natAbs p.2.natAbs = 1; rw [Int.natAbs_neg]; exact r.2⟩
/-- p over q, times q, is p -/
theorem over_times {p q : Int × Int} (rp : Red p) (rq : Red q) (h : q.1 ≠ 0) : mulP (lowP (p.1 * q.2) (p.2 * q.1)) q = p := by
  have hd : p.2 * q.1 ≠ 0 := fun y => by
    rcases Int.mul_eq_zero.mp y with y | y
    · have := rp.1; omega
    · exact h y
  have r := lowP_red (a := p.1 * q.2) hd
  refine red_inj (mulP_red r.1 rq.1) rp ?_
  have e : val (mulP (lowP (p.1 * q.2) (p.2 * q.1)) q) = val (lowP (p.1 * q.2) (p.2 * q.1)) * val q := by
    unfold mulP
    rw [val_lowP (den_mul r.1 rq.1)]
    unfold val
    rw [Rat.divInt_mul_divInt]
  rw [e, val_lowP hd]
  unfold val
  rw [Rat.divInt_mul_divInt, Rat.divInt_eq_divInt_iff]
  · rw [Int.mul_assoc, Int.mul_assoc, Int.mul_comm q.2, Int.mul_assoc, Int.mul_left_comm q.1, Int.mul_assoc]
  · intro y
    rcases Int.mul_eq_zero.mp y with y | y
    · exact hd y
    · have := rq.1; omega
  · have := rp.1; omega
theorem cmp_anti (p q : Int × Int) : cmpP q p = -cmpP p q := by
  unfold cmpP
  generalize p.1 * q.2 = x
  generalize q.1 * p.2 = y
  by_cases h : x - y = 0
  · rw [if_pos h, if_pos (by omega)]; rfl
  · rw [if_neg h, if_neg (by omega)]
    by_cases h2 : 0 < x - y
    · rw [if_pos h2, if_neg (by omega)]
    · rw [if_neg h2, if_pos (by omega)]; rfl
theorem cmp_zero {p q : Int × Int} (rp : Red p) (rq : Red q) (h : cmpP p q = 0) : p = q := by
  refine red_inj rp rq ?_
  unfold val
  rw [Rat.divInt_eq_divInt_iff (by have := rp.1; omega) (by have := rq.1; omega)]
  unfold cmpP at h
  by_cases c : p.1 * q.2 - q.1 * p.2 = 0
  · omega
  · rw [if_neg c] at h
    split at h <;> omega
theorem cmp_three (p q : Int × Int) : cmpP p q = 0 ∨ cmpP p q = 1 ∨ cmpP p q = -1 := by
  unfold cmpP
  split
  · exact .inl rfl
  · split
    · exact .inr (.inl rfl)
    · exact .inr (.inr rfl)
theorem stepL_les (l o : Int × Int) : stepL l o = lesP l o := by
  unfold stepL lesP
  rw [cmp_anti l o]
  by_cases h : cmpP l o ≤ 0
  · rw [if_pos h, if_neg (by omega)]
  · rw [if_neg h, if_pos (by omega)]
def grtP (g o : Int × Int) : Int × Int := if 0 < cmpP g o then g else o
theorem stepG_grt {g o : Int × Int} (rg : Red g) (ro : Red o) : stepG g o = grtP g o := by
  unfold stepG grtP
  rw [cmp_anti g o]
  by_cases h : 0 < cmpP g o
  · rw [if_pos h, if_neg (by omega)]
  · rw [if_neg h]
    by_cases h2 : cmpP g o = 0
    · rw [if_neg (by omega)]; exact cmp_zero rg ro h2
    · rw [if_pos (by omega)]
theorem foldl_les : ∀ (ps : List (Int × Int)) (l : Int × Int), ps.foldl stepL l = ps.foldl lesP l
  | [], _ => rfl
  | p :: ps, l => by rw [List.foldl_cons, List.foldl_cons, stepL_les]; exact foldl_les ps _
theorem foldl_grt : ∀ (ps : List (Int × Int)) (l : Int × Int), Red l → (∀ p ∈ ps, Red p) → ps.foldl stepG l = ps.foldl grtP l
  | [], _, _, _ => rfl
  | p :: ps, l, hl, hp => by
    rw [List.foldl_cons, List.foldl_cons, stepG_grt hl (hp p List.mem_cons_self)]
    refine foldl_grt ps _ ?_ fun q hq => hp q (List.mem_cons_of_mem _ hq)
    unfold grtP
    split
    · exact hl
    · exact hp p List.mem_cons_self
/-- sizes of sums -/
theorem lowP_le {a b : Int} (hb : b ≠ 0) : (lowP a b).1.natAbs ≤ a.natAbs ∧ (lowP a b).2.natAbs ≤ b.natAbs := by
  obtain ⟨s, s0, h1, h2, r⟩ := lowP_parts (a := a) hb
  have p : 1 ≤ s.natAbs := by omega
  have l : ∀ x : Int, x.natAbs ≤ (x * s).natAbs := fun x => by
    rw [Int.natAbs_mul]
    exact Nat.le_mul_of_pos_right _ p
  exact ⟨by conv => rhs; rw [← h1]
            exact l _, by conv => rhs; rw [← h2]
                          exact l _⟩
theorem lt_mul {i j : Int} {n m : Nat} (hi : i.natAbs < 2 ^ n) (hj : j.natAbs < 2 ^ m) : (i * j).natAbs < 2 ^ (n + m) := by
  rw [Int.natAbs_mul, Nat.pow_add]
  exact Nat.mul_lt_mul'' hi hj
theorem sumP_sz {p q : Int × Int} {n m : Nat} (hp : Sz n p) (hq : Sz m q) : Sz (n + m + 1) (sumP p q) := by
  have hd := den_mul hp.2.2 hq.2.2
  obtain ⟨l1, l2⟩ := lowP_le (a := p.1 * q.2 + q.1 * p.2) hd
  have a1 := lt_mul hp.1 hq.2.1
  have a2 := lt_mul hq.1 hp.2.1
  have a3 := lt_mul hp.2.1 hq.2.1
  have e : 2 ^ (n + m + 1) = 2 ^ (n + m) * 2 := Nat.pow_succ ..
  have e2 : m + n = n + m := Nat.add_comm ..
  rw [e2] at a2
  refine ⟨?_, ?_, (sumP_red hp.2.2 hq.2.2).1⟩
  · show (lowP _ _).1.natAbs < _
    have := Int.natAbs_add_le (p.1 * q.2) (q.1 * p.2)
    omega
  · show (lowP _ _).2.natAbs < _
    omega
theorem Sz.mono {p : Int × Int} {n m : Nat} (h : Sz n p) (l : n ≤ m) : Sz m p :=
  ⟨Nat.lt_of_lt_of_le h.1 (Nat.pow_le_pow_right (by decide) l), Nat.lt_of_lt_of_le h.2.1 (Nat.pow_le_pow_right (by decide) l), h.2.2⟩
/-- the sum of a row, as a value -/
def rsum : List (Int × Int) → Rat
  | [] => 0
  | p :: ps => val p + rsum ps
theorem foldl_val : ∀ (ps : List (Int × Int)) (t : Int × Int), 0 < t.2 → (∀ p ∈ ps, 0 < p.2) → val (ps.foldl sumP t) = val t + rsum ps
  | [], t, _, _ => by show val t = val t + 0; rw [Rat.add_zero]
  | p :: ps, t, ht, hp => by
    have h0 := hp p List.mem_cons_self
    rw [List.foldl_cons, foldl_val ps _ (sumP_red ht h0).1 (fun q hq => hp q (List.mem_cons_of_mem _ hq)), val_sumP ht h0, Rat.add_assoc]
    rfl
theorem foldl_sum_red : ∀ (ps : List (Int × Int)) (t : Int × Int), Red t → (∀ p ∈ ps, 0 < p.2) → Red (ps.foldl sumP t)
  | [], t, ht, _ => ht
  | p :: ps, t, ht, hp => foldl_sum_red ps _ (sumP_red ht.1 (hp p List.mem_cons_self)) fun q hq => hp q (List.mem_cons_of_mem _ hq)
/-- one turn of sum_of: couples become their sums -/
def pairs : List (Int × Int) → List (Int × Int)
  | p :: q :: ps => sumP p q :: pairs ps
  | ps => ps
/-- weights: the sizes stay together -/
inductive Wt : List (Int × Int) → Nat → Prop
  | nil : Wt [] 0
  | cons {p : Int × Int} {ps : List (Int × Int)} {n m : Nat} : Red p → Sz n p → Wt ps m → Wt (p :: ps) (n + 1 + m)
theorem Wt.pairs : ∀ {ps : List (Int × Int)} {n : Nat}, Wt ps n → Wt (pairs ps) n
  | [], _, h => h
  | [_], _, h => h
  | p :: q :: ps, _, .cons (n := a) r1 h1 (.cons (n := b) (m := c) r2 h2 t) => by
    have z := Wt.cons (sumP_red r1.1 r2.1) (sumP_sz h1 h2) t.pairs
    have e : a + 1 + (b + 1 + c) = a + b + 1 + 1 + c := by omega
    rw [e]
    exact z
theorem Wt.sz : ∀ {ps : List (Int × Int)} {n : Nat}, Wt ps n → ∀ p ∈ ps, Red p ∧ Sz n p
  | _, _, .cons r h t, p, hp => by
    rcases List.mem_cons.mp hp with e | e
    · subst e; exact ⟨r, h.mono (by omega)⟩
    · have z := t.sz p e; exact ⟨z.1, z.2.mono (by omega)⟩
theorem Wt.of {k : Nat} : ∀ (ps : List (Int × Int)), (∀ p ∈ ps, Red p ∧ Sz k p) → Wt ps ((k + 1) * ps.length)
  | [], _ => .nil
  | p :: ps, h => by
    have z := Wt.cons (h p List.mem_cons_self).1 (h p List.mem_cons_self).2 (Wt.of ps fun q hq => h q (List.mem_cons_of_mem _ hq))
    have e : (k + 1) * (p :: ps).length = k + 1 + (k + 1) * ps.length := by
      rw [List.length_cons, Nat.mul_succ]; omega
    rw [e]
    exact z
theorem rsum_pairs : ∀ {ps : List (Int × Int)}, (∀ p ∈ ps, 0 < p.2) → rsum (pairs ps) = rsum ps
  | [], _ => rfl
  | [_], _ => rfl
  | p :: q :: ps, h => by
    show val (sumP p q) + rsum (pairs ps) = val p + (val q + rsum ps)
    rw [rsum_pairs fun r hr => h r (List.mem_cons_of_mem _ (List.mem_cons_of_mem _ hr)), val_sumP (h p List.mem_cons_self) (h q (List.mem_cons_of_mem _ List.mem_cons_self)), Rat.add_assoc]
theorem pairs_len : ∀ (ps : List (Int × Int)), (pairs ps).length = (ps.length + 1) / 2
  | [] => rfl
  | [_] => by simp [pairs]
  | p :: q :: ps => by
    show (pairs ps).length + 1 = (ps.length + 1 + 1 + 1) / 2
    rw [pairs_len ps]; omega
/-- the pieces of a turn: sums, then what is left -/
def heads : List (Int × Int) → List (Int × Int)
  | p :: q :: ps => sumP p q :: heads ps
  | _ => []
theorem heads_pairs : ∀ (ps : List (Int × Int)), pairs ps = heads ps ++ ps.drop (2 * (heads ps).length)
  | [] => rfl
  | [_] => rfl
  | p :: q :: ps => by
    show sumP p q :: pairs ps = sumP p q :: (heads ps ++ (p :: q :: ps).drop (2 * ((heads ps).length + 1)))
    rw [heads_pairs ps]
    rfl
theorem heads_len : ∀ (ps : List (Int × Int)), (heads ps).length = ps.length / 2
  | [] => rfl
  | [_] => by simp [heads]
  | p :: q :: ps => by
    show (heads ps).length + 1 = (ps.length + 1 + 1) / 2
    rw [heads_len ps]; omega
theorem heads_get : ∀ (ps : List (Int × Int)) (i : Nat), i < ps.length / 2 → ∃ p q, ps[2 * i]? = some p ∧ ps[2 * i + 1]? = some q ∧ (heads ps)[i]? = some (sumP p q)
  | [], i, h => by simp at h
  | [_], i, h => by simp at h
  | p :: q :: ps, 0, _ => ⟨p, q, rfl, rfl, rfl⟩
  | p :: q :: ps, i + 1, h => by
    have h : i + 1 < (ps.length + 1 + 1) / 2 := h
    obtain ⟨a, b, h1, h2, h3⟩ := heads_get ps i (by omega)
    have e1 : 2 * (i + 1) = 2 * i + 1 + 1 := by omega
    exact ⟨a, b, by rw [e1]; exact h1, by rw [e1]; exact h2, h3⟩
end LW
namespace LW
open PySem PySem.Spec L2 DL
theorem iteD {p : Prop} [Decidable p] {A B : Prop} (a : p → A) (b : ¬ p → B) : if decide p = true then A else B := by
  by_cases h : p
  · rw [decide_eq_true h, if_pos rfl]; exact a h
  · rw [decide_eq_false h, if_neg Bool.false_ne_true]; exact b h
theorem seq_ref {M : Mm} {c : Addr} {xs : List D} (h : M c = some (.lst xs)) : seqD M (.ref c) = some xs := by simp only [seqD, h]
/-! ### the hand -/
def HandOk (M : Mm) (h : Addr) : Prop := ∃ (c : Addr) (i r t : Int) (cells : List Int), M h = some (.lst [.ref c, .int i, .int r, .int t]) ∧ c ≠ h ∧ M c = some (.lst (cells.map D.int)) ∧ cells.length ≤ 63 ∧ 0 ≤ i ∧ i ≤ 63
/-- all stays but the hand, and the hand keeps its cells -/
def leX (h : Addr) (M M' : Mm) : Prop := (∀ a o, a ≠ h → M a = some o → M' a = some o) ∧ ∀ x xs, M h = some (.lst (x :: xs)) → ∃ ys, M' h = some (.lst (x :: ys))
theorem leX.refl {h : Addr} {M : Mm} : leX h M M := ⟨fun _ _ _ e => e, fun _ xs e => ⟨xs, e⟩⟩
theorem leX.trans {h : Addr} {M M1 M2 : Mm} (a : leX h M M1) (b : leX h M1 M2) : leX h M M2 := ⟨fun x o n e => b.1 x o n (a.1 x o n e), fun x xs e => by
  obtain ⟨ys, e⟩ := a.2 x xs e
  exact b.2 x ys e⟩
theorem leX.put {h : Addr} {M : Mm} {x : D} {xs ys : List D} (hM : M h = some (.lst (x :: xs))) : leX h M (M.put h (.lst (x :: ys))) := ⟨fun a u n e => by rw [Mm.put_ne n]; exact e, fun z zs e => by
  rw [hM] at e
  cases e
  exact ⟨ys, Mm.put_same⟩⟩
theorem leX.of {h : Addr} {M M' : Mm} (e : M.le M') : leX h M M' := ⟨fun a o _ q => e a o q, fun x xs q => ⟨xs, e _ _ q⟩⟩
theorem HandOk.le {h : Addr} {M M' : Mm} (H : HandOk M h) (e : M.le M') : HandOk M' h := by
  obtain ⟨c, i, r, t, cells, h1, h2, h3, h4⟩ := H
  exact ⟨c, i, r, t, cells, e _ _ h1, h2, e _ _ h3, h4⟩
theorem put_put {M : Mm} {p : Addr} {a b : MO} : (M.put p a).put p b = M.put p b := by
  funext x
  unfold Mm.put
  split <;> rfl
theorem atI_get {α : Type} {xs : List α} {i : Int} {n : Nat} {x : α} (hi : i = (n : Int)) (h : xs[n]? = some x) : atI xs i = some x := by
  have hl : n < xs.length := by
    rcases Nat.lt_or_ge n xs.length with q | q
    · exact q
    · rw [List.getElem?_eq_none q] at h; cases h
  subst hi
  have e : ixN xs.length (n : Int) = some n := by
    unfold ixN
    rw [if_pos (by omega), if_pos (by omega)]
    simp
  unfold atI
  rw [e]
  exact h
theorem ixN_nat {n k : Nat} (h : k < n) : ixN n (k : Int) = some k := by
  unfold ixN
  rw [if_pos (by omega), if_pos (by omega)]
  simp
def sp_law_draw : DSp := fun ds M _ Q => ∃ (h : Addr) (k : Int), ds = [.ref h, .int k] ∧ HandOk M h ∧ 0 < k ∧ k.natAbs.log2 < 9000 ∧ ∀ (v : Int) M', 0 ≤ v → v < k → HandOk M' h → leX h M M' → Q (.int v) M'
theorem mix_call {Γ : Gm} (hΓ : Γ.gv 19 = .fn 2 sp_mix []) {n t : Int} {M : Mm} {E : EK} {Q : QD} (hn : n.natAbs < 2 ^ 64) (ht : t.natAbs < 2 ^ 64) (h : Q (.int (mixP n t)) M) : callD (Γ.gv 19) 2 [.int n, .int t] M E Q := by
  rw [hΓ]
  exact ⟨Nat.le_refl _, Nat.le_refl _, rfl, n, t, rfl, hn, ht, h⟩
theorem eqv_int (a b : Int) : PyData.eqv (PyData.int a) (PyData.int b) = decide (a = b) := by
  first | rfl | simp [PyData.eqv]
def d2 : Sms := (.cons (.setS (.var 0) (.int 3) (.op .Mod (.bi .int (.cons (.op .Add (.ix (.var 0) (.int 3)) (.int 1)) .nil)) (.int 2147483629))) (.cons (.ret (.op .Mod (.bi .int (.cons (.call 19 (.cons (.ix (.var 0) (.int 3)) (.cons (.ix (.var 0) (.int 1)) .nil))) .nil)) (.var 1))) .nil))
def d1 : Sms := (.cons (.ifs (.cmp .Gt (.ix (.var 0) (.int 2)) (.int 0)) (.cons (.set 3 (.ix (.var 0) (.int 2))) (.cons (.setS (.var 0) (.int 2) (.op .FloorDiv (.var 3) (.var 1))) (.cons (.ret (.op .Mod (.bi .int (.cons (.var 3) .nil)) (.var 1))) .nil))) .nil) d2)
def d0 : Sms := (.cons (.set 2 (.ix (.ix (.var 0) (.int 0)) (.ix (.var 0) (.int 1)))) (.cons (.setS (.var 0) (.int 1) (.op .Add (.ix (.var 0) (.int 1)) (.int 1))) (.cons (.ifs (.cmp .Lt (.var 2) (.op .Pow (.int 10) (.int 18))) (.cons (.ret (.op .Mod (.bi .int (.cons (.call 19 (.cons (.op .Mod (.bi .int (.cons (.var 2) .nil)) (.int 2147483647)) (.cons (.ix (.var 0) (.int 1)) .nil))) .nil)) (.var 1))) .nil) .nil) (.cons (.setS (.var 0) (.int 2) (.var 2)) .nil))))
section
variable {Γ : Gm} (hΓ : Γ.gv 19 = .fn 2 sp_mix [])
include hΓ
theorem ev_d2 {M : Mm} {h c : Addr} {k i r t : Int} {x y : Option D} {K : KE} (hk : 0 < k) (hM : M h = some (.lst [.ref c, .int i, .int r, .int t])) (hi : 0 ≤ i ∧ i ≤ 63)
    (q : ∀ v t', 0 ≤ v → v < k → K.rt (.int v) (M.put h (.lst [.ref c, .int i, .int r, .int t']))) : evSs Γ d2 [some (.ref h), some (.int k), x, y] M K := by
  refine ⟨_, .inl hM, .int t, rfl, by decide, _, 3, hM, rfl, ?_⟩
  refine ⟨_, .inl Mm.put_same, _, rfl, _, .inl Mm.put_same, .int i, rfl, ?_⟩
  refine mix_call hΓ (mod_sm (by decide) (by decide)) (by omega) ⟨hk, ?_⟩
  exact q _ _ (Int.emod_nonneg _ (by omega)) (Int.emod_lt_of_pos _ hk)
theorem ev_d1 {M : Mm} {h c : Addr} {k i r t : Int} {x : Option D} {K : KE} (hk : 0 < k) (hb : k.natAbs.log2 < 9000) (hM : M h = some (.lst [.ref c, .int i, .int r, .int t])) (hi : 0 ≤ i ∧ i ≤ 63)
    (q : ∀ v r' t', 0 ≤ v → v < k → K.rt (.int v) (M.put h (.lst [.ref c, .int i, .int r', .int t']))) : evSs Γ d1 [some (.ref h), some (.int k), x, none] M K := by
  refine ⟨_, .inl hM, .int r, rfl, _, rfl, ?_⟩
  by_cases z : 0 < r
  · rw [decide_eq_true z]
    refine iteT ?_
    refine ⟨_, .inl hM, .int r, rfl, ⟨by omega, hb⟩, _, 2, hM, rfl, hk, ?_⟩
    exact q _ _ _ (Int.emod_nonneg _ (by omega)) (Int.emod_lt_of_pos _ hk)
  · rw [decide_eq_false z]
    refine iteF ?_
    exact ev_d2 hΓ hk hM hi fun v t' h1 h2 => q v r t' h1 h2
end
def m_law_draw : Sms := (.cons (.ifs (.bop .And (.cons (.cmp .Eq (.ix (.var 0) (.int 2)) (.int 0)) (.cons (.cmp .Lt (.ix (.var 0) (.int 1)) (.bi .len (.cons (.ix (.var 0) (.int 0)) .nil))) .nil))) d0 .nil) d1)
theorem pure_law_draw {Γ : Gm} (hΓ : Γ.gv 19 = .fn 2 sp_mix []) : ∀ ds M E Q, ds.length = 2 → sp_law_draw ds M E Q → bodyD Γ 4 m_law_draw ds M E Q := by
  rintro ds M E Q hl ⟨h, k, rfl, ⟨c, i, r, t, cells, hM, hc, hC, hn, hi⟩, hk, hb, q⟩
  have fin : ∀ (i' : Int), 0 ≤ i' ∧ i' ≤ 63 → ∀ M1 : Mm, leX h M M1 → ∀ (v r' t' : Int), 0 ≤ v → v < k → Q (.int v) (M1.put h (.lst [.ref c, .int i', .int r', .int t'])) := fun i' hi' M1 l v r' t' h1 h2 => by
    obtain ⟨ys, e1⟩ := l.2 _ _ hM
    refine q v _ h1 h2 ⟨c, i', r', t', cells, Mm.put_same, hc, ?_, hn, hi'⟩ (l.trans (leX.put e1))
    rw [Mm.put_ne hc]
    exact l.1 _ _ hc hC
  refine ⟨_, .inl hM, .int r, rfl, _, rfl, ?_⟩
  rw [eqv_int]
  by_cases z : r = 0
  · rw [decide_eq_true z]
    refine ⟨_, .inl hM, .int i, rfl, _, .inl hM, .ref c, rfl, cells.map D.int, ?_, _, rfl, ?_⟩
    · exact seq_ref hC
    rw [List.length_map]
    by_cases y : i < (cells.length : Int)
    · rw [decide_eq_true y]
      refine iteT ?_
      obtain ⟨n, rfl⟩ := Int.eq_ofNat_of_zero_le hi.1
      have hnl : n < cells.length := by omega
      have eg : (cells.map D.int)[n]? = some (.int cells[n]) := by
        rw [List.getElem?_map, List.getElem?_eq_getElem hnl]; rfl
      refine ⟨_, .inl hM, .ref c, rfl, _, .inl hM, .int (n : Int), rfl, _, .inl hC, .int cells[n], atI_get rfl eg, ?_⟩
      refine ⟨_, .inl hM, .int (n : Int), rfl, _, 1, hM, rfl, ?_⟩
      refine ⟨by refine ⟨by decide, by decide, by decide⟩, _, rfl, ?_⟩
      have hi1 : (0 : Int) ≤ (n : Int) + 1 ∧ (n : Int) + 1 ≤ 63 := by omega
      refine iteD (fun _ => ?_) (fun _ => ?_)
      · refine ⟨by decide, _, .inl Mm.put_same, .int ((n : Int) + 1), rfl, ?_⟩
        refine mix_call hΓ (mod_sm (by decide) (by decide)) (by omega) ⟨hk, ?_⟩
        exact fin _ hi1 M leX.refl _ _ _ (Int.emod_nonneg _ (by omega)) (Int.emod_lt_of_pos _ hk)
      · refine ⟨_, 2, Mm.put_same, rfl, ?_⟩
        refine ev_d1 hΓ (c := c) (i := (n : Int) + 1) (r := cells[n]) (t := t) hk hb Mm.put_same hi1 fun v r' t' h1 h2 => ?_
        exact fin _ hi1 _ (leX.trans (leX.put hM) (leX.put Mm.put_same)) v r' t' h1 h2
    · rw [decide_eq_false y]
      refine iteF ?_
      exact ev_d1 hΓ hk hb hM hi fun v r' t' h1 h2 => fin i hi M leX.refl v r' t' h1 h2
  · rw [decide_eq_false z]
    refine iteF ?_
    exact ev_d1 hΓ hk hb hM hi fun v r' t' h1 h2 => fin i hi M leX.refl v r' t' h1 h2
/-! ### a comprehension that changes nothing -/
theorem compL_map {G : Mm → Prop} {p : Addr} {step : D → Mm → (Option D → Mm → Prop) → Prop} {M : Mm} (f : D → D) (hG : ∀ acc, G (M.put p (.lst acc))) : ∀ (I acc : List D) (Q : Mm → Prop), (∀ d ∈ I, ∀ acc (K : Option D → Mm → Prop), K (some (f d)) (M.put p (.lst acc)) → step d (M.put p (.lst acc)) K) → acc.length + I.length ≤ 100000 → Q (M.put p (.lst (acc ++ I.map f))) → compL G p step I acc (M.put p (.lst acc)) Q
  | [], acc, Q, _, _, q => ⟨hG acc, Mm.put_same, by simpa using q⟩
  | d :: I, acc, Q, hs, hl, q => by
    refine ⟨hG acc, hs d List.mem_cons_self acc _ ⟨Mm.put_same, ?_, ?_⟩⟩
    · have : sizeLine ≥ 100000 := by rw [sizeLine_eq]; decide
      simp at hl
      omega
    · rw [put_put]
      refine compL_map f hG I (acc ++ [f d]) Q (fun e he => hs e (List.mem_cons_of_mem _ he)) ?_ (by simpa using q)
      simp at hl ⊢
      omega
end LW
namespace LW
open PySem PySem.Spec L2 DL
/-! ### the hand made, a wide number drawn -/
theorem log2_lt {x n : Nat} (h : x < 2 ^ n) (h0 : 0 < n) : x.log2 < n := by
  by_cases e : x = 0
  · subst e; simpa using h0
  · exact (Nat.log2_lt e).mpr h
def b_hand : Sms := (.cons (.set 1 (.op .Mod (.bi .int (.cons (.op .Add (.op .Mult (.var 1) (.int 31)) (.op .Mult (.bi .int (.cons (.var 3) .nil)) (.op .Add (.var 2) (.int 7)))) .nil)) (.int 2147483629))) .nil)
theorem hand_turns {Γ : Gm} {M : Mm} {G : Mm → Prop} (hG : G M) {K : KE} {d : Option D} : ∀ (ns : List Int) (k : Nat) (t : Int) (x y : Option D), (∀ z ∈ ns, z.natAbs.log2 < 2000000) → k + ns.length ≤ 63 → 0 ≤ t → t < 2 ^ 31 → (∀ t x y, K.nx [d, some (.int t), x, y] M) → forD G (.tup (.cons (.nm 2) (.cons (.nm 3) .nil))) (evSs Γ b_hand) K (enmD k (ns.map D.int)) [d, some (.int t), x, y] M
  | [], k, t, x, y, _, _, _, _, q => ⟨hG, q t x y⟩
  | z :: ns, k, t, x, y, hz, hl, h0, h1, q => by
    have hz0 := hz z List.mem_cons_self
    have hk : (((k : Nat) : Int) + 7).natAbs.log2 < 64 := log2_lt (by simp at hl; omega) (by decide)
    have ht : MulB t 31 := mulB_of (a := 64) (b := 64) (by omega) (by decide) (by decide) (by decide) (by decide)
    refine ⟨hG, ht, ?_⟩
    refine ⟨by unfold MulB; omega, by decide, ?_⟩
    refine hand_turns hG ns (k + 1) _ _ _ (fun w hw => hz w (List.mem_cons_of_mem _ hw)) (by simp at hl ⊢; omega) (Int.emod_nonneg _ (by decide)) ?_ q
    have := Int.emod_lt_of_pos (t * 31 + z * ((k : Int) + 7)) (show (0 : Int) < 2147483629 by decide)
    omega
def sp_law_hand : DSp := fun ds M _ Q => ∃ (a : Addr) (ns : List Int), ds = [.ref a] ∧ ns.length ≤ 63 ∧ (∀ z ∈ ns, z.natAbs.log2 < 2000000) ∧ (M a = some (.lst (ns.map D.int)) ∨ M a = some (.rol (ns.map D.int))) ∧ ∀ h M', HandOk M' h → Q (.ref h) M'
def absD : D → D
  | .int i => .int (if i < 0 then -i else i)
  | d => d
def m_law_hand : Sms := (.cons (.set 1 (.int 0)) (.cons (.fo (.tup (.cons (.nm 2) (.cons (.nm 3) .nil))) (.enm (.var 0)) b_hand) (.cons (.ret (.lst (.cons (.lc [3] (.nm 3) (.seq (.var 0)) .none (.bi .abs (.cons (.bi .int (.cons (.var 3) .nil)) .nil))) (.cons (.int 0) (.cons (.int 0) (.cons (.var 1) .nil)))))) .nil)))
theorem pure_law_hand {Γ : Gm} : ∀ ds M E Q, ds.length = 1 → sp_law_hand ds M E Q → bodyD Γ 4 m_law_hand ds M E Q := by
  rintro ds M E Q hl ⟨a, ns, rfl, hn, hz, hM, q⟩
  refine ⟨ns.map D.int, hM, ?_⟩
  refine hand_turns (G := fun M => M a = some (.lst (ns.map D.int)) ∨ M a = some (.rol (ns.map D.int))) hM ns 0 0 none none hz (by omega) (by decide) (by decide) fun t x y => ?_
  refine ⟨ns.map D.int, hM, fun p np => ?_⟩
  have hpa : a ≠ p := fun e => by
    subst e
    rcases hM with e | e <;> rw [np] at e <;> cases e
  refine compL_map (M := M) absD (fun acc => ?_) (ns.map D.int) [] _ (fun d hd acc K hK => ?_) (by simp; omega) ?_
  · rw [Mm.put_ne hpa]; exact hM
  · obtain ⟨i, hi, rfl⟩ := List.mem_map.mp hd
    exact hK
  · refine ⟨by rw [sizeLine_eq]; show 4 ≤ _; decide, fun h nh => ?_⟩
    have hhp : p ≠ h := fun e => by subst e; rw [Mm.put_same] at nh; cases nh
    refine q h _ ⟨p, 0, 0, t, ns.map fun i => if i < 0 then -i else i, Mm.put_same, hhp, ?_, by simpa using hn, by decide, by decide⟩
    rw [Mm.put_ne hhp, Mm.put_same]
    congr 2
    rw [List.nil_append, List.map_map, List.map_map]
    rfl
theorem draw_call {Γ : Gm} (hΓ : Γ.gv 21 = .fn 2 sp_law_draw []) {h : Addr} {k : Int} {M : Mm} {E : EK} {Q : QD} (H : HandOk M h) (hk : 0 < k) (hb : k.natAbs < 2 ^ 64) (q : ∀ (v : Int) M', 0 ≤ v → v < k → HandOk M' h → leX h M M' → Q (.int v) M') : callD (Γ.gv 21) 2 [.ref h, .int k] M E Q := by
  rw [hΓ]
  exact ⟨Nat.le_refl _, Nat.le_refl _, rfl, h, k, rfl, H, hk, Nat.lt_trans (log2_lt hb (by decide)) (by decide), q⟩
def sp_law_wide : DSp := fun ds M _ Q => ∃ h, ds = [.ref h] ∧ HandOk M h ∧ ∀ (v : Int) M', v.natAbs < 10 ^ 18 → HandOk M' h → leX h M M' → Q (.int v) M'
def m_law_wide : Sms := (.cons (.set 1 (.ix (.lst (.cons (.int 9) (.cons (.op .Pow (.int 10) (.int 9)) (.cons (.op .Pow (.int 10) (.int 9)) .nil)))) (.call 21 (.cons (.var 0) (.cons (.int 3) .nil))))) (.cons (.set 2 (.call 21 (.cons (.var 0) (.cons (.var 1) .nil)))) (.cons (.ifs (.cmp .Gt (.var 1) (.int 9)) (.cons (.set 2 (.op .Add (.op .Mult (.var 2) (.op .Pow (.int 10) (.int 9))) (.call 21 (.cons (.var 0) (.cons (.op .Pow (.int 10) (.int 9)) .nil))))) .nil) .nil) (.cons (.ret (.ite (.cmp .Eq (.call 21 (.cons (.var 0) (.cons (.int 2) .nil))) (.int 0)) (.neg (.var 2)) (.var 2))) .nil))))
theorem HandOk.ne {M : Mm} {h p : Addr} (H : HandOk M h) (np : M p = none) : p ≠ h := fun e => by
  obtain ⟨c, i, r, t, cells, h1, _⟩ := H
  subst e
  rw [np] at h1; cases h1
theorem HandOk.new {M : Mm} {h p : Addr} {o : MO} (H : HandOk M h) (np : M p = none) : HandOk (M.put p o) h := H.le (Mm.le_new np)
theorem pw : (10 : Int) ^ ((9 : Int).toNat) = 1000000000 := by decide
def w_end : Sms := (.cons (.ret (.ite (.cmp .Eq (.call 21 (.cons (.var 0) (.cons (.int 2) .nil))) (.int 0)) (.neg (.var 2)) (.var 2))) .nil)
theorem ev_wend {Γ : Gm} (hΓ : Γ.gv 21 = .fn 2 sp_law_draw []) {M0 M : Mm} {h : Addr} {x : Option D} {v : Int} {K : KE} (H : HandOk M h) (l : leX h M0 M) (hv : v.natAbs < 10 ^ 18) (q : ∀ (v : Int) M', v.natAbs < 10 ^ 18 → HandOk M' h → leX h M0 M' → K.rt (.int v) M') : evSs Γ w_end [some (.ref h), x, some (.int v)] M K := by
  refine draw_call hΓ H (by decide) (by decide) fun u M1 _ _ H1 l1 => ⟨_, rfl, ?_⟩
  rw [eqv_int]
  refine iteD (fun _ => ?_) (fun _ => ?_)
  · exact q (-v) M1 (by omega) H1 (l.trans l1)
  · exact q v M1 hv H1 (l.trans l1)
theorem pure_law_wide {Γ : Gm} (hΓ : Γ.gv 21 = .fn 2 sp_law_draw []) : ∀ ds M E Q, ds.length = 1 → sp_law_wide ds M E Q → bodyD Γ 3 m_law_wide ds M E Q := by
  rintro ds M E Q hl ⟨h, rfl, H, q⟩
  have cp : CPow 10 9 := ⟨by decide, by decide, by decide⟩
  refine ⟨cp, cp, by rw [sizeLine_eq]; decide, fun p np => ?_⟩
  have hph := H.ne np
  refine draw_call hΓ (H.new np) (by decide) (by decide) fun v M1 v0 v1 H1 l1 => ?_
  have e1 := l1.1 p _ hph Mm.put_same
  have l2 : leX h M M1 := (leX.of (Mm.le_new np)).trans l1
  refine ⟨_, .inl e1, ?_⟩
  rw [pw]
  have three : v = 0 ∨ v = 1 ∨ v = 2 := by omega
  have big : ∀ (s : Int), s = 1000000000 → evSs Γ (.cons (.set 2 (.call 21 (.cons (.var 0) (.cons (.var 1) .nil)))) (.cons (.ifs (.cmp .Gt (.var 1) (.int 9)) (.cons (.set 2 (.op .Add (.op .Mult (.var 2) (.op .Pow (.int 10) (.int 9))) (.call 21 (.cons (.var 0) (.cons (.op .Pow (.int 10) (.int 9)) .nil))))) .nil) .nil) w_end)) [some (.ref h), some (.int s), none] M1 { nx := fun _ M' => Q .non M', rt := Q, ex := fun x _ M' => E x M' } := fun s hs => by
    subst hs
    refine draw_call hΓ H1 (by decide) (by decide) fun u M2 u0 u1 H2 l3 => ?_
    refine ⟨_, rfl, iteT ⟨cp, by rw [pw]; exact m64 (by omega) (by decide), ?_⟩⟩
    refine ⟨cp, ?_⟩
    rw [pw]
    refine draw_call hΓ H2 (by decide) (by decide) fun y M3 y0 y1 H3 l4 => ?_
    exact ev_wend hΓ H3 ((l2.trans l3).trans l4) (by omega) q
  rcases three with rfl | rfl | rfl
  · refine ⟨.int 9, rfl, ?_⟩
    refine draw_call hΓ H1 (by decide) (by decide) fun u M2 u0 u1 H2 l3 => ?_
    refine ⟨_, rfl, iteF ?_⟩
    exact ev_wend hΓ H2 (l2.trans l3) (by omega) q
  · exact ⟨.int 1000000000, rfl, big _ rfl⟩
  · exact ⟨.int 1000000000, rfl, big _ rfl⟩
end LW
namespace LW
open PySem PySem.Spec L2 DL
def m_make_ratio : Sms := (.cons (.ifs (.not (.val (.call 4 (.cons (.var 0) .nil)))) (.cons (.raise 1 (.cons (.str "top") .nil)) .nil) .nil) (.cons (.ifs (.bop .Or (.cons (.not (.val (.call 4 (.cons (.var 1) .nil)))) (.cons (.cmp .Eq (.var 1) (.int 0)) .nil))) (.cons (.raise 1 (.cons (.str "bottom") .nil)) .nil) .nil) (.cons (.ret (.call 7 (.cons (.var 0) (.cons (.var 1) .nil)))) .nil)))
def m_law_is_ratio : Sms := (.cons (.ifs (.bop .Or (.cons (.not (.val (.bi .isi (.cons (.var 0) (.cons (.tyn .tuple) .nil))))) (.cons (.cmp .NotEq (.bi .len (.cons (.var 0) .nil)) (.int 2)) .nil))) (.cons (.ret (.bl false)) .nil) .nil) (.cons (.ifs (.bop .Or (.cons (.not (.val (.bi .isi (.cons (.ix (.var 0) (.int 0)) (.cons (.tyn .int) .nil))))) (.cons (.val (.bi .isi (.cons (.ix (.var 0) (.int 0)) (.cons (.tyn .bool) .nil)))) .nil))) (.cons (.ret (.bl false)) .nil) .nil) (.cons (.ifs (.bop .Or (.cons (.not (.val (.bi .isi (.cons (.ix (.var 0) (.int 1)) (.cons (.tyn .int) .nil))))) (.cons (.val (.bi .isi (.cons (.ix (.var 0) (.int 1)) (.cons (.tyn .bool) .nil)))) .nil))) (.cons (.ret (.bl false)) .nil) .nil) (.cons (.ret (.bop .And (.cons (.cmp .GtE (.ix (.var 0) (.int 1)) (.int 1)) (.cons (.cmp .Eq (.call 22 (.cons (.ix (.var 0) (.int 0)) (.cons (.ix (.var 0) (.int 1)) .nil))) (.int 1)) .nil)))) .nil))))
def m_law_refused : Sms := (.cons (.trA (.cons (.expr (.call 6 (.cons (.var 0) (.cons (.var 1) .nil)))) (.cons (.ret (.str "none")) .nil)) 2 0 (.cons (.ret (.ite (.val (.xis (.var 2) 1)) (.xfl (.var 2) "what") (.str "other"))) .nil)) .nil)
def m_law_by_zero : Sms := (.cons (.trA (.cons (.ret (.tup (.cons (.call 11 (.cons (.var 0) (.cons (.var 1) .nil))) (.cons (.str "") .nil)))) .nil) 2 1 (.cons (.ret (.tup (.cons .non (.cons (.xfl (.var 2) "what") .nil)))) .nil)) .nil)
/-! ### what is whole, what is a ratio -/
def whP : D → D → D → Bool
  | .int i, l, h => (match l with | .int j => decide (j ≤ i) | _ => true) && (match h with | .int j => decide (i ≤ j) | _ => true)
  | _, _, _ => false
def Bnd (d : D) : Prop := d = .non ∨ ∃ i, d = .int i
def Tyd (M : Mm) (d : D) : Prop := ∃ t, Ty.of M d = some t
theorem ty_ref {M : Mm} {a : Addr} {t : Ty} (h : Ty.of M (.ref a) = some t) : t = .list := by
  simp only [Ty.of] at h
  cases hm : M a with
  | none => rw [hm] at h; cases h
  | some o => rw [hm] at h; cases o <;> first | (cases h; rfl) | cases h
theorem ty_int {M : Mm} {d : D} {t : Ty} (h : Ty.of M d = some t) : (∃ i, d = .int i) ∨ (∃ b, d = .bl b) ∨ (t ≠ .int ∧ t ≠ .bool ∧ ∀ l h, whP d l h = false) := by
  cases d with
  | int i => exact .inl ⟨i, rfl⟩
  | bl b => exact .inr (.inl ⟨b, rfl⟩)
  | non => cases h; exact .inr (.inr ⟨by decide, by decide, fun _ _ => rfl⟩)
  | str x => cases h; exact .inr (.inr ⟨by decide, by decide, fun _ _ => rfl⟩)
  | tup x => cases h; exact .inr (.inr ⟨by decide, by decide, fun _ _ => rfl⟩)
  | ty x => cases h
  | ref a =>
    cases ty_ref h
    exact .inr (.inr ⟨by decide, by decide, fun _ _ => rfl⟩)
theorem isi_int {M : Mm} {d : D} {t : Ty} (h : Ty.of M d = some t) : isiD M d (.ty "int") = some (t.sub .int) := by
  unfold isiD
  simp only [h]
  rfl
theorem isi_bool {M : Mm} {d : D} {t : Ty} (h : Ty.of M d = some t) : isiD M d (.ty "bool") = some (t.sub .bool) := by
  unfold isiD
  simp only [h]
  rfl
theorem isi_tuple {M : Mm} {d : D} {t : Ty} (h : Ty.of M d = some t) : isiD M d (.ty "tuple") = some (t.sub .tuple) := by
  unfold isiD
  simp only [h]
  rfl
def sp_is_whole : DSp := fun ds M _ Q => ∃ d l h, ds = [d, l, h] ∧ Tyd M d ∧ Bnd l ∧ Bnd h ∧ Q (.bl (whP d l h)) M
theorem pure_is_whole {Γ : Gm} : ∀ ds M E Q, ds.length = 3 → sp_is_whole ds M E Q → bodyD Γ 3 m_is_whole ds M E Q := by
  rintro ds M E Q hl ⟨d, l, h, rfl, ⟨t, ht⟩, bl, bh, q⟩
  refine ⟨_, isi_int ht, _, rfl, ?_⟩
  rcases ty_int ht with ⟨i, rfl⟩ | ⟨b, rfl⟩ | ⟨n1, n2, hw⟩
  · cases ht
    refine ⟨_, isi_bool (M := M) (d := .int i) rfl, _, rfl, ?_⟩
    refine iteF ?_
    rcases bl with rfl | ⟨j, rfl⟩
    · refine ⟨_, rfl, ?_⟩
      rcases bh with rfl | ⟨k, rfl⟩
      · exact ⟨_, rfl, q⟩
      · refine ⟨_, rfl, ⟨_, rfl, ?_⟩⟩
        simpa [whP] using q
    · refine ⟨_, rfl, ⟨_, rfl, ?_⟩⟩
      by_cases c : j ≤ i
      · rw [decide_eq_true c]
        have e : ∀ h, whP (.int i) (.int j) h = (match h with | .int j => decide (i ≤ j) | _ => true) := fun h => by simp [whP, c]
        rw [e] at q
        rcases bh with rfl | ⟨k, rfl⟩
        · exact ⟨_, rfl, q⟩
        · exact ⟨_, rfl, ⟨_, rfl, q⟩⟩
      · rw [decide_eq_false c]
        have e : ∀ h, whP (.int i) (.int j) h = false := fun h => by simp [whP, c]
        rw [e] at q
        exact q
  · cases ht
    refine ⟨_, isi_bool (M := M) (d := .bl b) rfl, _, rfl, ?_⟩
    refine iteT ?_
    exact q
  · have e1 : t.sub .int = false := by cases t <;> first | rfl | exact absurd rfl n1 | exact absurd rfl n2
    rw [e1]
    refine iteT ?_
    rw [hw] at q
    exact q
theorem whole_call {Γ : Gm} (hΓ : Γ.gv 4 = .fn 3 sp_is_whole [.non, .non]) {d : D} {M : Mm} {E : EK} {Q : QD} (ht : Tyd M d) (q : Q (.bl (whP d .non .non)) M) : callD (Γ.gv 4) 1 [d] M E Q := by
  rw [hΓ]
  exact ⟨by decide, by decide, rfl, d, .non, .non, rfl, ht, .inl rfl, .inl rfl, q⟩
theorem whole_call2 {Γ : Gm} (hΓ : Γ.gv 4 = .fn 3 sp_is_whole [.non, .non]) {d l : D} {M : Mm} {E : EK} {Q : QD} (ht : Tyd M d) (hl : Bnd l) (q : Q (.bl (whP d l .non)) M) : callD (Γ.gv 4) 2 [d, l] M E Q := by
  rw [hΓ]
  exact ⟨by decide, by decide, rfl, d, l, .non, rfl, ht, hl, .inl rfl, q⟩
theorem whole_call3 {Γ : Gm} (hΓ : Γ.gv 4 = .fn 3 sp_is_whole [.non, .non]) {d l h : D} {M : Mm} {E : EK} {Q : QD} (ht : Tyd M d) (hl : Bnd l) (hh : Bnd h) (q : Q (.bl (whP d l h)) M) : callD (Γ.gv 4) 3 [d, l, h] M E Q := by
  rw [hΓ]
  exact ⟨by decide, by decide, rfl, d, l, h, rfl, ht, hl, hh, q⟩
def gcd1 : D → D → Bool
  | .int a, .int b => decide (((Nat.gcd a.natAbs b.natAbs : Nat) : Int) = 1)
  | _, _ => false
def ratP : D → Bool
  | .tup [x, y] => whP x .non .non && (whP y (.int 1) .non && gcd1 x y)
  | _ => false
def sp_is_ratio : DSp := fun ds M _ Q => ∃ d, ds = [d] ∧ Tyd M d ∧ (∀ x y, d = .tup [x, y] → Tyd M x ∧ Tyd M y) ∧ Q (.bl (ratP d)) M
theorem wh_int {x l h : D} (e : whP x l h = true) : ∃ i, x = .int i := by
  cases x <;> first | exact ⟨_, rfl⟩ | (simp [whP] at e)
theorem pure_is_ratio {Γ : Gm} (hΓ : Γ.gv 4 = .fn 3 sp_is_whole [.non, .non]) : ∀ ds M E Q, ds.length = 1 → sp_is_ratio ds M E Q → bodyD Γ 1 m_is_ratio ds M E Q := by
  rintro ds M E Q hl ⟨d, rfl, ⟨t, ht⟩, hxy, q⟩
  refine ⟨_, isi_tuple ht, _, rfl, ?_⟩
  by_cases c : t = .tuple
  · subst c
    have hd : ∃ xs, d = .tup xs := by
      cases d with
      | tup xs => exact ⟨xs, rfl⟩
      | ref a => cases ty_ref ht
      | _ => cases ht
    obtain ⟨xs, rfl⟩ := hd
    refine ⟨xs, rfl, _, rfl, ?_⟩
    rw [eqv_int]
    by_cases c2 : xs.length = 2
    · rw [decide_eq_true (show (xs.length : Int) = 2 by omega)]
      refine iteF ?_
      match xs, c2 with
      | [x, y], _ =>
        obtain ⟨tx, ty⟩ := hxy x y rfl
        refine ⟨x, rfl, whole_call hΓ tx ?_⟩
        have e : ratP (.tup [x, y]) = (whP x .non .non && (whP y (.int 1) .non && gcd1 x y)) := rfl
        rw [e] at q
        cases hx : whP x .non .non with
        | false => rw [hx] at q; exact q
        | true =>
          rw [hx, Bool.true_and] at q
          refine ⟨y, rfl, whole_call2 hΓ ty (.inr ⟨1, rfl⟩) ?_⟩
          cases hy : whP y (.int 1) .non with
          | false => rw [hy] at q; exact q
          | true =>
            rw [hy, Bool.true_and] at q
            obtain ⟨a, rfl⟩ := wh_int hx
            obtain ⟨b, rfl⟩ := wh_int hy
            refine ⟨.int a, rfl, .int b, rfl, _, rfl, ?_⟩
            rw [eqv_int]
            exact q
    · rw [decide_eq_false (show ¬ (xs.length : Int) = 2 by omega)]
      refine iteT ?_
      have e : ratP (.tup xs) = false := by
        match xs, c2 with
        | [], _ => rfl
        | [_], _ => rfl
        | [_, _], h => exact absurd rfl h
        | _ :: _ :: _ :: _, _ => rfl
      rw [e] at q
      exact q
  · have e1 : t.sub .tuple = false := by cases t <;> first | rfl | exact absurd rfl c
    rw [e1]
    refine iteT ?_
    have e : ratP d = false := by
      cases d with
      | tup xs => cases ht; exact absurd rfl c
      | _ => rfl
    rw [e] at q
    exact q
theorem rat_call {Γ : Gm} (hΓ : Γ.gv 5 = .fn 1 sp_is_ratio []) {d : D} {M : Mm} {E : EK} {Q : QD} (ht : Tyd M d) (hxy : ∀ x y, d = .tup [x, y] → Tyd M x ∧ Tyd M y) (q : Q (.bl (ratP d)) M) : callD (Γ.gv 5) 1 [d] M E Q := by
  rw [hΓ]
  exact ⟨by decide, by decide, rfl, d, rfl, ht, hxy, q⟩
def errW (C : Addr) (w : Str) (M : Mm) (E : EK) : Prop := ∀ dd, M dd = none → E ⟨C, some dd⟩ (M.put dd (.exd [("what", .str w)]))
/-- which arguments make_ratio refuses, and by which word -/
def isZ : D → Bool
  | .int i => decide (i = 0)
  | _ => false
def mkW (x y : D) : Option Str := if whP x .non .non = false then some "top" else if (!whP y .non .non || isZ y) = true then some "bottom" else none
def sp_make_ratio (C : Addr) : DSp := fun ds M E Q => ∃ x y, ds = [x, y] ∧ Tyd M x ∧ Tyd M y ∧
  ((whP x .non .non = false ∧ errW C "top" M E) ∨ (whP x .non .non = true ∧ (whP y .non .non = false ∨ y = .int 0) ∧ errW C "bottom" M E) ∨ (∃ a b, x = .int a ∧ y = .int b ∧ b ≠ 0 ∧ b.natAbs.log2 < 8000 ∧ Q (rt (lowP a b)) M))
theorem raise_what {Γ : Gm} {C : Addr} (h1 : Γ.gv 1 = .err C ["what"] [0]) {w : Str} (hw : w.length ≤ 1000) {M : Mm} {ρ : DEnv} {K : KE} (h : ∀ dd, M dd = none → K.ex ⟨C, some dd⟩ ρ (M.put dd (.exd [("what", .str w)]))) : evS Γ (.raise 1 (.cons (.str w) .nil)) ρ M K := by
  refine ⟨by rw [h1]; trivial, ?_⟩
  show raiseD Γ 1 [.str w] M fun x M2 => K.ex x ρ M2
  unfold raiseD
  rw [h1]
  have n1 : (["what"] : List Str) ≠ [] := List.cons_ne_nil _ _
  have n2 : ∀ i ∈ [0], ∃ d, ([.str w] : List D)[i]? = some d ∧ TxtD d := fun i hi => by
    have e : i = 0 := by simpa using hi
    subst e
    exact ⟨.str w, rfl, hw⟩
  exact ⟨n1, rfl, n2, h⟩
theorem eqv_z {y : D} (hy : whP y .non .non = true) : ∃ b, y = .int b ∧ ∀ M : Mm, cmpD M .Eq y (.int 0) = some (decide (b = 0)) := by
  obtain ⟨b, rfl⟩ := wh_int hy
  refine ⟨b, rfl, fun M => ?_⟩
  show some (PyData.eqv (PyData.int b) (PyData.int 0)) = _
  rw [eqv_int]
theorem pure_make_ratio {Γ : Gm} {C : Addr} (hW : Γ.gv 4 = .fn 3 sp_is_whole [.non, .non]) (hL : Γ.gv 7 = .fn 2 sp_lowest []) (h1 : Γ.gv 1 = .err C ["what"] [0]) : ∀ ds M E Q, ds.length = 2 → sp_make_ratio C ds M E Q → bodyD Γ 2 m_make_ratio ds M E Q := by
  rintro ds M E Q hl ⟨x, y, rfl, tx, ty, h⟩
  refine whole_call hW tx ⟨_, rfl, ?_⟩
  rcases h with ⟨hx, h⟩ | ⟨hx, hy, h⟩ | ⟨a, b, rfl, rfl, b0, bs, h⟩
  · rw [hx]
    exact iteT (raise_what h1 (by decide) h)
  · rw [hx]
    refine iteF (whole_call hW ty ⟨_, rfl, ?_⟩)
    cases c : whP y .non .non with
    | false => exact iteT (raise_what h1 (by decide) h)
    | true =>
      obtain ⟨b, rfl, e⟩ := eqv_z c
      have hb : b = 0 := by
        rcases hy with hy | hy
        · rw [hy] at c; cases c
        · injection hy
      refine ⟨_, e M, ?_⟩
      rw [decide_eq_true hb]
      exact iteT (raise_what h1 (by decide) h)
  · refine iteF (whole_call hW ty ⟨_, rfl, ?_⟩)
    refine ⟨_, rfl, ?_⟩
    rw [eqv_int, decide_eq_false b0]
    refine iteF ?_
    exact low_call hL b0 bs h
def sp_law_is_ratio : DSp := fun ds M _ Q => ∃ p, ds = [rt p] ∧ Red p ∧ Q (.bl true) M
theorem lgcd_call {Γ : Gm} (hΓ : Γ.gv 22 = .fn 2 sp_law_gcd []) {a b : Int} {M : Mm} {E : EK} {Q : QD} (h : Q (.int (Nat.gcd a.natAbs b.natAbs : Nat)) M) : callD (Γ.gv 22) 2 [.int a, .int b] M E Q := by
  rw [hΓ]
  exact ⟨by decide, by decide, rfl, a, b, rfl, h⟩
theorem pure_law_is_ratio {Γ : Gm} (hΓ : Γ.gv 22 = .fn 2 sp_law_gcd []) : ∀ ds M E Q, ds.length = 1 → sp_law_is_ratio ds M E Q → bodyD Γ 1 m_law_is_ratio ds M E Q := by
  rintro ds M E Q hl ⟨p, rfl, r, q⟩
  refine ⟨_, rfl, _, rfl, _, rfl, _, rfl, ?_⟩
  refine iteF ⟨.int p.1, rfl, _, rfl, _, rfl, .int p.1, rfl, _, rfl, _, rfl, ?_⟩
  refine iteF ⟨.int p.2, rfl, _, rfl, _, rfl, .int p.2, rfl, _, rfl, _, rfl, ?_⟩
  refine iteF ⟨.int p.2, rfl, _, rfl, ?_⟩
  rw [decide_eq_true (show (1 : Int) ≤ p.2 by have := r.1; omega)]
  refine ⟨.int p.1, rfl, .int p.2, rfl, lgcd_call hΓ ⟨_, rfl, ?_⟩⟩
  rw [r.2]
  exact q
end LW
namespace LW
open PySem PySem.Spec L2 DL
/-! ### what is refused -/
theorem put_le {M : Mm} {p : Addr} {o : MO} (np : M p = none) : M.le (M.put p o) := Mm.le_new np
def sp_law_refused : DSp := fun ds M _ Q => ∃ x y w, ds = [x, y] ∧ Tyd M x ∧ Tyd M y ∧ mkW x y = some w ∧ ∀ M', M.le M' → Q (.str w) M'
theorem xis_at {Γ : Gm} {C a dd : Addr} (h1 : Γ.gv 1 = .err C ["what"] [0]) (s1 : Γ.sub C C = some true) {M : Mm} {Q : QD} {fs : List (Str × D)} (hM : M dd = some (.exd fs)) (q : Q (.bl true) M) : xisD { Γ with exn := some (a, C, some dd) } 1 (.ref a) M Q := by
  have e : xisD { Γ with exn := some (a, C, some dd) } 1 (.ref a) M Q = (match some (a, C, some dd), D.ref a, (GV.err C ["what"] [0]).clsOf with
  | some (p, C, dx), .ref b, some C' => b = p ∧ (∀ dd, dx = some dd → ∃ fs, M dd = some (.exd fs)) ∧ ∃ k, Γ.sub C C' = some k ∧ Q (.bl k) M
  | _, _, _ => False) := by
    rw [← h1]; rfl
  rw [e]
  exact ⟨rfl, fun d' e => by cases e; exact ⟨_, hM⟩, true, s1, q⟩
def s_ref : Sms := (.cons (.ret (.ite (.val (.xis (.var 2) 1)) (.xfl (.var 2) "what") (.str "other"))) .nil)
theorem ev_sref {Γ : Gm} {C a dd : Addr} (h1 : Γ.gv 1 = .err C ["what"] [0]) (s1 : Γ.sub C C = some true) (hx : Γ.xfl C "what") {w : Str} {M : Mm} {x y : Option D} {K : KE} (hM : M dd = some (.exd [("what", .str w)])) (q : K.rt (.str w) M) : evSs { Γ with exn := some (a, C, some dd) } s_ref [x, y, some (.ref a)] M K := by
  have z : evE { Γ with exn := some (a, C, some dd) } (.xfl (.var 2) "what") [x, y, some (.ref a)] M (fun z => K.ex z [x, y, some (.ref a)]) K.rt := ⟨rfl, hx, _, .str w, hM, rfl, q⟩
  exact xis_at (Q := fun d M1 => ∃ k, truD M1 d = some k ∧ (if k = true then evE { Γ with exn := some (a, C, some dd) } (.xfl (.var 2) "what") [x, y, some (.ref a)] M1 (fun z => K.ex z [x, y, some (.ref a)]) K.rt else K.rt (.str "other") M1)) h1 s1 hM ⟨true, rfl, iteT z⟩
def s_zer : Sms := (.cons (.ret (.tup (.cons .non (.cons (.xfl (.var 2) "what") .nil)))) .nil)
theorem ev_szer {Γ : Gm} {C a dd : Addr} (hx : Γ.xfl C "what") {w : Str} {M : Mm} {x y : Option D} {K : KE} (hM : M dd = some (.exd [("what", .str w)])) (q : K.rt (.tup [.non, .str w]) M) : evSs { Γ with exn := some (a, C, some dd) } s_zer [x, y, some (.ref a)] M K := by
  exact ⟨rfl, hx, _, .str w, hM, rfl, by rw [sizeLine_eq]; show 2 ≤ _; decide, q⟩
theorem make_call {Γ : Gm} {C : Addr} (hM : Γ.gv 6 = .fn 2 (sp_make_ratio C) [.int 1]) {x y : D} {M : Mm} {E : EK} {Q : QD} (h : sp_make_ratio C [x, y] M E Q) : callD (Γ.gv 6) 2 [x, y] M E Q := by
  rw [hM]
  exact ⟨by decide, by decide, rfl, h⟩
theorem mkW_err {C : Addr} {x y : D} {w : Str} {M : Mm} {E : EK} {Q : QD} (tx : Tyd M x) (ty : Tyd M y) (hw : mkW x y = some w) (h : ∀ dd, M dd = none → E ⟨C, some dd⟩ (M.put dd (.exd [("what", .str w)]))) : sp_make_ratio C [x, y] M E Q := by
  refine ⟨x, y, rfl, tx, ty, ?_⟩
  unfold mkW at hw
  by_cases c : whP x .non .non = false
  · rw [if_pos c] at hw
    cases hw
    exact .inl ⟨c, h⟩
  · rw [if_neg c] at hw
    have c : whP x .non .non = true := by simpa using c
    by_cases c2 : (!whP y .non .non || isZ y) = true
    · rw [if_pos c2] at hw
      cases hw
      refine .inr (.inl ⟨c, ?_, h⟩)
      cases c3 : whP y .non .non with
      | false => exact .inl rfl
      | true =>
        rw [c3] at c2
        obtain ⟨b, rfl⟩ := wh_int c3
        have : b = 0 := by simpa [isZ] using c2
        exact .inr (by rw [this])
    · rw [if_neg c2] at hw
      cases hw
theorem pure_law_refused {Γ : Gm} {C S : Addr} (hM : Γ.gv 6 = .fn 2 (sp_make_ratio C) [.int 1]) (h0 : Γ.gv 0 = .cls S) (h1 : Γ.gv 1 = .err C ["what"] [0]) (s0 : Γ.sub C S = some true) (s1 : Γ.sub C C = some true) (hx : Γ.xfl C "what") : ∀ ds M E Q, ds.length = 2 → sp_law_refused ds M E Q → bodyD Γ 3 m_law_refused ds M E Q := by
  rintro ds M E Q hl ⟨x, y, w, rfl, tx, ty, hw, q⟩
  refine make_call hM (mkW_err tx ty hw fun dd nd => ?_)
  refine ⟨S, true, by rw [h0]; rfl, s0, fun _ a na => ?_, fun z => by cases z⟩
  exact ev_sref h1 s1 hx Mm.put_same (q _ (put_le nd))
def sp_law_by_zero : DSp := fun ds M _ Q => ∃ p q : Int × Int, ds = [rt p, rt q] ∧ Sz 3000 p ∧ Sz 3000 q ∧
  ((q.1 = 0 ∧ ∀ M', M.le M' → Q (.tup [.non, .str "zero"]) M') ∨ (q.1 ≠ 0 ∧ Q (.tup [rt (lowP (p.1 * q.2) (p.2 * q.1)), .str ""]) M))
theorem over_call {Γ : Gm} {C : Addr} (hO : Γ.gv 11 = .fn 2 (sp_over C) []) {x y : D} {M : Mm} {E : EK} {Q : QD} (h : sp_over C [x, y] M E Q) : callD (Γ.gv 11) 2 [x, y] M E Q := by
  rw [hO]
  exact ⟨by decide, by decide, rfl, h⟩
theorem pure_law_by_zero {Γ : Gm} {C : Addr} (hO : Γ.gv 11 = .fn 2 (sp_over C) []) (h1 : Γ.gv 1 = .err C ["what"] [0]) (s1 : Γ.sub C C = some true) (hx : Γ.xfl C "what") : ∀ ds M E Q, ds.length = 2 → sp_law_by_zero ds M E Q → bodyD Γ 3 m_law_by_zero ds M E Q := by
  rintro ds M E Q hl ⟨p, q, rfl, hp, hq, h⟩
  refine over_call hO ⟨p, q, rfl, hp, hq, ?_⟩
  rcases h with ⟨z, h⟩ | ⟨z, h⟩
  · refine .inl ⟨z, fun dd nd => ?_⟩
    refine ⟨C, true, by rw [h1]; rfl, s1, fun _ a na => ?_, fun z => by cases z⟩
    exact ev_szer hx Mm.put_same (h _ (put_le nd))
  · refine .inr ⟨z, ?_⟩
    exact ⟨by rw [sizeLine_eq]; show 2 ≤ _; decide, h⟩
end LW
namespace LW
open PySem PySem.Spec L2 DL
def m_ratio_text : Sms := (.cons (.setT (.tup (.cons (.nm 1) (.cons (.nm 2) .nil))) (.var 0)) (.cons (.set 3 (.ite (.cmp .Lt (.var 1) (.int 0)) (.str "-") (.str ""))) (.cons (.set 4 (.ite (.cmp .Eq (.var 2) (.int 1)) (.str "") (.fst (.cons (.str "/") (.cons (.fmt (.call 18 (.cons (.var 2) .nil))) .nil))))) (.cons (.ret (.fst (.cons (.fmt (.var 3)) (.cons (.fmt (.call 18 (.cons (.bi .abs (.cons (.var 1) .nil)) .nil))) (.cons (.fmt (.var 4)) .nil))))) .nil))))
def m_figures : Sms := (.cons (.set 1 (.lst .nil)) (.cons (.whl (.cmp .GtE (.var 0) (.op .Pow (.int 10) (.int 64))) (.cons (.setT (.tup (.cons (.nm 0) (.cons (.nm 2) .nil))) (.bi .divmod (.cons (.var 0) (.cons (.op .Pow (.int 10) (.int 64)) .nil)))) (.cons (.expr (.mth .append (.var 1) (.cons (.smt .zfill (.bi .str (.cons (.var 2) .nil)) (.int 64)) .nil))) .nil))) (.cons (.expr (.mth .append (.var 1) (.cons (.bi .str (.cons (.var 0) .nil)) .nil))) (.cons (.ret (.smt .join (.str "") (.rev (.var 1)))) .nil))))
def m_law_text_good : Sms := (.cons (.set 1 (.ite (.cmp .Eq (.ix (.var 0) (.int 1)) (.int 1)) (.bi .str (.cons (.ix (.var 0) (.int 0)) .nil)) (.op .Add (.op .Add (.bi .str (.cons (.ix (.var 0) (.int 0)) .nil)) (.str "/")) (.bi .str (.cons (.ix (.var 0) (.int 1)) .nil))))) (.cons (.ret (.cmp .Eq (.call 17 (.cons (.var 0) .nil)) (.var 1))) .nil))
/-! ### texts -/
def tx (i : Int) : Str := Str.ofString (toString i)
theorem tx_len {i : Int} (h : i.natAbs < 10 ^ 64) : (tx i).length ≤ 65 := by
  have e : (tx i).length = (toString i : String).length := ofString_length _
  rw [e]
  exact int_text_length_le10 (by decide) h
theorem tx_log {i : Int} (h : i.natAbs < 10 ^ 64) : i.natAbs.log2 < 1920 :=
  log2_lt (Nat.lt_trans h (by decide)) (by decide)
theorem ofString_app (s t : String) : Str.ofString (s ++ t) = Str.ofString s ++ Str.ofString t := by
  rw [Str.ofString_eq_toList, Str.ofString_eq_toList, Str.ofString_eq_toList, String.toList_append]
  show _ = Str.mk (_ ++ _)
  simp
theorem app_assoc (a b c : Str) : a ++ b ++ c = a ++ (b ++ c) := by
  show Str.mk (_ ++ _) = Str.mk (_ ++ _)
  congr 1
  exact Array.append_assoc
theorem emp_app (a : Str) : Str.empty ++ a = a := by
  show Str.mk (#[] ++ _) = a
  simp
theorem app_emp (a : Str) : a ++ ("" : Str) = a := by
  show Str.mk (_ ++ #[]) = a
  simp
theorem len_app (a b : Str) : (a ++ b).length = a.length + b.length := Str.length_append ..
theorem tx_neg {i : Int} (h : i < 0) : tx i = ("-" : Str) ++ tx (-i) := by
  unfold tx
  rw [show toString i = "-" ++ toString (0 - i) from PyProof.Rows.toString_neg h, ofString_app, Int.zero_sub]
theorem join_one (s : Str) : Txt.join ("" : Str) [s] = s := rfl
def sp_figures : DSp := fun ds M _ Q => ∃ n : Int, ds = [.int n] ∧ 0 ≤ n ∧ n.natAbs < 10 ^ 64 ∧ ∀ M', M.le M' → Q (.str (tx n)) M'
def c_fig : Te := (.cmp .GtE (.var 0) (.op .Pow (.int 10) (.int 64)))
def b_fig : Sms := (.cons (.setT (.tup (.cons (.nm 0) (.cons (.nm 2) .nil))) (.bi .divmod (.cons (.var 0) (.cons (.op .Pow (.int 10) (.int 64)) .nil)))) (.cons (.expr (.mth .append (.var 1) (.cons (.smt .zfill (.bi .str (.cons (.var 2) .nil)) (.int 64)) .nil))) .nil))
theorem pure_figures {Γ : Gm} : ∀ ds M E Q, ds.length = 1 → sp_figures ds M E Q → bodyD Γ 3 m_figures ds M E Q := by
  rintro ds M E Q hl ⟨n, rfl, n0, n1, q⟩
  refine ⟨by rw [sizeLine_eq]; decide, fun p np => ⟨1, ?_⟩⟩
  refine ⟨⟨by decide, by decide, by decide⟩, _, rfl, ?_⟩
  rw [decide_eq_false (show ¬ (10 : Int) ^ (64 : Int).toNat ≤ n by
    have e : (10 : Int) ^ (64 : Int).toNat = ((10 ^ 64 : Nat) : Int) := by decide
    rw [e]; omega)]
  refine iteF ?_
  refine ⟨⟨[], .inl Mm.put_same⟩, tx_log n1, [], Mm.put_same, by rw [sizeLine_eq]; decide, ?_⟩
  refine ⟨⟨_, rfl⟩, [.str (tx n)], .inl Mm.put_same, fun p2 np2 => ?_⟩
  refine ⟨[.str (tx n)], [tx n], ?_, rfl, ?_, ?_⟩
  · exact seq_ref (xs := [.str (tx n)]) Mm.put_same
  · have := tx_len n1
    show (tx n).length + 0 + (0 + 1) * 0 ≤ _
    omega
  · rw [join_one]
    exact q _ (Mm.le_trans (by rw [put_put]; exact put_le np) (put_le np2))
theorem fig_call {Γ : Gm} (hΓ : Γ.gv 18 = .fn 1 sp_figures []) {n : Int} {M : Mm} {E : EK} {Q : QD} (n0 : 0 ≤ n) (n1 : n.natAbs < 10 ^ 64) (q : ∀ M', M.le M' → Q (.str (tx n)) M') : callD (Γ.gv 18) 1 [.int n] M E Q := by
  rw [hΓ]
  exact ⟨by decide, by decide, rfl, n, rfl, n0, n1, q⟩
/-- the text of a ratio -/
def rtx (p : Int × Int) : Str := if p.2 = 1 then tx p.1 else tx p.1 ++ ("/" : Str) ++ tx p.2
def Fig (p : Int × Int) : Prop := p.1.natAbs < 10 ^ 64 ∧ p.2.natAbs < 10 ^ 64 ∧ 0 < p.2
def sp_ratio_text : DSp := fun ds M _ Q => ∃ p, ds = [rt p] ∧ Fig p ∧ ∀ M', M.le M' → Q (.str (rtx p)) M'
theorem pure_ratio_text {Γ : Gm} (hΓ : Γ.gv 18 = .fn 1 sp_figures []) : ∀ ds M E Q, ds.length = 1 → sp_ratio_text ds M E Q → bodyD Γ 5 m_ratio_text ds M E Q := by
  rintro ds M E Q hl ⟨p, rfl, ⟨f1, f2, f3⟩, q⟩
  have tl : ∀ i : Int, i.natAbs < 10 ^ 64 → (tx i).length ≤ 65 := fun i h => tx_len h
  have fin : ∀ (sgn : Str) (M1 : Mm), M.le M1 → sgn.length ≤ 1 → sgn ++ tx (if p.1 < 0 then -p.1 else p.1) = tx p.1 → ∀ (e : Str) (M2 : Mm), M1.le M2 → e.length ≤ 70 → tx p.1 ++ e = rtx p →
      evSs Γ (.cons (.ret (.fst (.cons (.fmt (.var 3)) (.cons (.fmt (.call 18 (.cons (.bi .abs (.cons (.var 1) .nil)) .nil))) (.cons (.fmt (.var 4)) .nil))))) .nil) [some (rt p), some (.int p.1), some (.int p.2), some (.str sgn), some (.str e)] M2 { nx := fun _ M' => Q .non M', rt := Q, ex := fun x _ M' => E x M' } := fun sgn M1 l1 hs es e M2 l2 he ee => by
    have hab : (if p.1 < 0 then -p.1 else p.1).natAbs < 10 ^ 64 := by split <;> omega
    refine ⟨by rw [sizeLine_eq]; omega, sgn, rfl, by rw [len_app, sizeLine_eq]; show 0 + _ ≤ _; omega, ?_⟩
    refine fig_call hΓ (by split <;> omega) hab fun M3 l3 => ?_
    have t1 := tl _ hab
    refine ⟨by rw [sizeLine_eq]; omega, _, rfl, by rw [len_app, len_app, sizeLine_eq]; show 0 + _ + _ ≤ _; omega, ?_⟩
    refine ⟨by rw [sizeLine_eq]; omega, _, rfl, by rw [len_app, len_app, len_app, sizeLine_eq]; show 0 + _ + _ + _ ≤ _; omega, ?_⟩
    show Q (.str (Str.empty ++ sgn ++ tx _ ++ e)) M3
    rw [emp_app, es, ee]
    exact q M3 (Mm.le_trans l1 (Mm.le_trans l2 l3))
  have en : ∀ (sgn : Str), sgn.length ≤ 1 → sgn ++ tx (if p.1 < 0 then -p.1 else p.1) = tx p.1 → 
      evSs Γ (.cons (.set 4 (.ite (.cmp .Eq (.var 2) (.int 1)) (.str "") (.fst (.cons (.str "/") (.cons (.fmt (.call 18 (.cons (.var 2) .nil))) .nil))))) (.cons (.ret (.fst (.cons (.fmt (.var 3)) (.cons (.fmt (.call 18 (.cons (.bi .abs (.cons (.var 1) .nil)) .nil))) (.cons (.fmt (.var 4)) .nil))))) .nil)) [some (rt p), some (.int p.1), some (.int p.2), some (.str sgn), none] M { nx := fun _ M' => Q .non M', rt := Q, ex := fun x _ M' => E x M' } := fun sgn hs es => by
    refine ⟨_, rfl, ?_⟩
    rw [eqv_int]
    refine iteD (fun c => ?_) (fun c => ?_)
    · exact fin sgn M (Mm.le_refl M) hs es "" M (Mm.le_refl M) (by decide) (by unfold rtx; rw [if_pos c, app_emp])
    · have t1 := tl p.2 f2
      refine ⟨"/", rfl, by rw [len_app, sizeLine_eq]; decide, ?_⟩
      refine fig_call hΓ (by omega) f2 fun M1 l1 => ?_
      refine ⟨by rw [sizeLine_eq]; omega, _, rfl, by rw [len_app, len_app, sizeLine_eq]; show 0 + 1 + _ ≤ _; omega, ?_⟩
      refine fin sgn M (Mm.le_refl M) hs es _ M1 l1 ?_ ?_
      · rw [emp_app, len_app]; show 1 + _ ≤ _; omega
      · unfold rtx; rw [if_neg c, emp_app, app_assoc]
  refine ⟨_, rfl, ?_⟩
  refine iteD (fun c => ?_) (fun c => ?_)
  · exact en "-" (by decide) (by rw [if_pos c]; exact (tx_neg c).symm)
  · exact en "" (by decide) (by rw [if_neg c]; exact emp_app _)
def sp_law_text_good : DSp := fun ds M _ Q => ∃ p, ds = [rt p] ∧ Fig p ∧ ∀ M', M.le M' → Q (.bl true) M'
theorem rtext_call {Γ : Gm} (hΓ : Γ.gv 17 = .fn 1 sp_ratio_text []) {p : Int × Int} {M : Mm} {E : EK} {Q : QD} (f : Fig p) (q : ∀ M', M.le M' → Q (.str (rtx p)) M') : callD (Γ.gv 17) 1 [rt p] M E Q := by
  rw [hΓ]
  exact ⟨by decide, by decide, rfl, p, rfl, f, q⟩
theorem tx_ok (i : Int) : PyData.strOk (tx i) = true := by
  unfold PyData.strOk tx
  rw [Array.all_eq_true']
  intro k hk
  have hk : k ∈ (Str.ofString (toString i)).cps.toList := by simpa using hk
  rw [PyProof.Rows.signs_ofString] at hk
  obtain ⟨c, _, rfl⟩ := List.mem_map.mp hk
  have h : c.val.toNat.isValidChar := c.valid
  unfold Nat.isValidChar at h
  simp only [decide_eq_true_eq]
  show c.val.toNat < _
  omega
theorem app_ok {a b : Str} (ha : PyData.strOk a = true) (hb : PyData.strOk b = true) : PyData.strOk (a ++ b) = true := by
  unfold PyData.strOk at ha hb ⊢
  show (a.cps ++ b.cps).all _ = true
  rw [Array.all_append, ha, hb]; rfl
theorem rtx_ok (p : Int × Int) : PyData.strOk (rtx p) = true := by
  unfold rtx
  split
  · exact tx_ok _
  · exact app_ok (app_ok (tx_ok _) (by decide +kernel)) (tx_ok _)
theorem eq_str {M : Mm} {a : Str} (h : PyData.strOk a = true) : cmpD M .Eq (.str a) (.str a) = some true := by
  show (match (if PyData.strOk a then some (PyData.str a) else none), (if PyData.strOk a then some (PyData.str a) else none) with | some p, some q => some (PyData.eqv p q) | _, _ => none) = _
  rw [h]
  show some (PyData.eqv (PyData.str a) (PyData.str a)) = _
  simp [PyData.eqv]
theorem pure_law_text_good {Γ : Gm} (hΓ : Γ.gv 17 = .fn 1 sp_ratio_text []) : ∀ ds M E Q, ds.length = 1 → sp_law_text_good ds M E Q → bodyD Γ 2 m_law_text_good ds M E Q := by
  rintro ds M E Q hl ⟨p, rfl, f, q⟩
  have fin : evSs Γ (.cons (.ret (.cmp .Eq (.call 17 (.cons (.var 0) .nil)) (.var 1))) .nil) [some (rt p), some (.str (rtx p))] M { nx := fun _ M' => Q .non M', rt := Q, ex := fun x _ M' => E x M' } := by
    refine rtext_call hΓ f fun M1 l1 => ?_
    exact ⟨true, eq_str (rtx_ok p), q M1 l1⟩
  have t1 := tx_len f.1
  have t2 := tx_len f.2.1
  refine ⟨.int p.2, rfl, _, rfl, ?_⟩
  rw [eqv_int]
  refine iteD (fun c => ?_) (fun c => ?_)
  · refine ⟨.int p.1, rfl, tx_log f.1, ?_⟩
    unfold rtx at fin
    rw [if_pos c] at fin
    exact fin
  · unfold rtx at fin
    rw [if_neg c] at fin
    refine ⟨.int p.1, rfl, tx_log f.1, ?_⟩
    refine ⟨by rw [sizeLine_eq]; show (tx p.1).length + 1 ≤ _; omega, .int p.2, rfl, tx_log f.2.1, ?_⟩
    refine ⟨by rw [len_app, sizeLine_eq]; show (tx p.1).length + 1 + (tx p.2).length ≤ _; omega, ?_⟩
    exact fin
end LW
namespace LW
open PySem PySem.Spec L2 DL
def m_sum_of : Sms := (.cons (.set 1 (.bi .list (.cons (.var 0) .nil))) (.cons (.whl (.cmp .Gt (.bi .len (.cons (.var 1) .nil)) (.int 1)) (.cons (.setLc 2 [3] (.nm 3) (.rng3 (.int 0) (.op .Sub (.bi .len (.cons (.var 1) .nil)) (.int 1)) (.int 2)) .none (.call 8 (.cons (.ix (.var 1) (.var 3)) (.cons (.ix (.var 1) (.op .Add (.var 3) (.int 1))) .nil)))) (.cons (.set 1 (.op .Add (.var 2) (.slc (.var 1) (.some (.op .Mult (.int 2) (.bi .len (.cons (.var 2) .nil)))) .none))) .nil))) (.cons (.ret (.ite (.val (.var 1)) (.ix (.var 1) (.int 0)) (.gl 2))) .nil)))
/-! ### the sum of a row -/
def c_sum : Te := (.cmp .Gt (.bi .len (.cons (.var 1) .nil)) (.int 1))
def b_sum : Sms := (.cons (.setLc 2 [3] (.nm 3) (.rng3 (.int 0) (.op .Sub (.bi .len (.cons (.var 1) .nil)) (.int 1)) (.int 2)) .none (.call 8 (.cons (.ix (.var 1) (.var 3)) (.cons (.ix (.var 1) (.op .Add (.var 3) (.int 1))) .nil)))) (.cons (.set 1 (.op .Add (.var 2) (.slc (.var 1) (.some (.op .Mult (.int 2) (.bi .len (.cons (.var 2) .nil)))) .none))) .nil))
theorem plus_call {Γ : Gm} (hΓ : Γ.gv 8 = .fn 2 sp_plus []) {p q : Int × Int} {M : Mm} {E : EK} {Q : QD} (hp : Sz 3000 p) (hq : Sz 3000 q) (h : Q (rt (sumP p q)) M) : callD (Γ.gv 8) 2 [rt p, rt q] M E Q := by
  rw [hΓ]
  exact ⟨Nat.le_refl _, Nat.le_refl _, rfl, p, q, rfl, hp, hq, h⟩
theorem rgc {n : Nat} (h : 2 ≤ n) (h2 : n ≤ 100000) : RgC 0 ((n : Int) - 1) 2 (n / 2 : Nat) := by
  refine ⟨by decide, by decide, ?_, ?_⟩
  · have e : Builtin.Range.rangeSize 0 ((n : Int) - 1) 2 = ((n / 2 : Nat) : Int) := by
      unfold Builtin.Range.rangeSize
      rw [if_pos (by decide), if_pos (by omega)]
      omega
    unfold Builtin.Range.small
    rw [e]
    simp only [Builtin.Range.rangeFitsLong, Bool.and_eq_true, Bool.or_eq_true, decide_eq_true_eq, beq_iff_eq, show ((2 : Int) > 0) by decide, if_true]
    omega
  · unfold Builtin.Range.rangeSize
    rw [if_pos (by decide), if_pos (by omega)]
    omega
theorem cut_drop {xs : List D} {k : Nat} : cutD xs (some (k : Int)) none = xs.drop k := by
  unfold cutD
  rw [HT.sIx_nat, HT.sIx_none]
  by_cases h : k ≤ xs.length
  · rw [Nat.min_eq_left h, List.take_of_length_le (by simp)]
  · rw [Nat.min_eq_right (by omega), List.drop_of_length_le (by omega), List.drop_of_length_le (by omega)]
    simp
def sp_sum_of : DSp := fun ds M _ Q => ∃ d ps n, ds = [d] ∧ Row M d ps ∧ Wt ps n ∧ n ≤ 3000 ∧ ps.length ≤ 1000 ∧ ∀ r M', M.le M' → Red r → val r = rsum ps → Q (rt r) M'
/-- one turn -/
theorem ev_bs {Γ : Gm} (hΓ : Γ.gv 8 = .fn 2 sp_plus []) {M : Mm} {d : Option D} {l : Addr} {x : Option D} {ps : List (Int × Int)} {K : KE} (h2 : 2 ≤ ps.length) (hn : ps.length ≤ 1000) (hs : ∀ p ∈ ps, Sz 3000 p) (hM : M l = some (.lst (ps.map rt)))
    (q : ∀ l' x' M', M.le M' → M' l' = some (.lst ((pairs ps).map rt)) → K.nx [d, some (.ref l'), x', none] M') : evSs Γ b_sum [d, some (.ref l), x, none] M K := by
  have seq : seqD M (.ref l) = some (ps.map rt) := seq_ref hM
  refine ⟨ps.map rt, seq, ps.length / 2, ?_, fun p np => ?_⟩
  · have e : ((ps.map rt).length : Int) - 1 = (ps.length : Int) - 1 := by simp
    rw [e]; exact rgc h2 (by omega)
  have hlp : l ≠ p := fun e => by subst e; rw [np] at hM; cases hM
  have f : ∃ f : D → D, ∀ i < ps.length / 2, ∃ a b, ps[2 * i]? = some a ∧ ps[2 * i + 1]? = some b ∧ (heads ps)[i]? = some (sumP a b) ∧ f (.int (0 + (i : Int) * 2)) = rt (sumP a b) := by
    refine ⟨fun d => match d with | .int j => (match (heads ps)[(j / 2).toNat]? with | some r => rt r | none => .non) | _ => .non, fun i hi => ?_⟩
    obtain ⟨a, b, e1, e2, e3⟩ := heads_get ps i hi
    refine ⟨a, b, e1, e2, e3, ?_⟩
    have e : (((0 : Int) + (i : Int) * 2) / 2).toNat = i := by omega
    show (match (heads ps)[(((0 : Int) + (i : Int) * 2) / 2).toNat]? with | some r => rt r | none => .non) = _
    rw [e, e3]
  obtain ⟨f, hf⟩ := f
  have items : (rngC 0 2 (ps.length / 2)).map f = (heads ps).map rt := by
    apply List.ext_getElem?
    intro i
    unfold rngC
    rw [List.getElem?_map, List.getElem?_map, List.getElem?_map]
    by_cases hi : i < ps.length / 2
    · obtain ⟨a, b, e1, e2, e3, e4⟩ := hf i hi
      rw [e3, List.getElem?_range hi]
      show some (f (.int (0 + (i : Int) * 2))) = some (rt (sumP a b))
      rw [e4]
    · rw [List.getElem?_eq_none (by simpa using hi), List.getElem?_eq_none (by rw [heads_len]; omega)]
      rfl
  refine compL_map (M := M) f (fun acc => trivial) (rngC 0 2 (ps.length / 2)) [] _ (fun e he acc K hK => ?_) ?_ ?_
  · obtain ⟨i, hi, rfl⟩ := List.mem_map.mp he
    have hi := List.mem_range.mp hi
    obtain ⟨a, b, e1, e2, e3, e4⟩ := hf i hi
    rw [e4] at hK
    have l1 : M.put p (.lst acc) l = some (.lst (ps.map rt)) := by rw [Mm.put_ne hlp]; exact hM
    refine ⟨_, .inl l1, rt a, atI_get (n := 2 * i) (by omega) (by rw [List.getElem?_map, e1]; rfl), ?_⟩
    refine ⟨_, .inl l1, rt b, atI_get (n := 2 * i + 1) (by omega) (by rw [List.getElem?_map, e2]; rfl), ?_⟩
    exact plus_call hΓ (hs a (List.mem_of_getElem? e1)) (hs b (List.mem_of_getElem? e2)) hK
  · unfold rngC; simp; omega
  · rw [List.nil_append, items]
    have cutk : cutD (ps.map rt) (some (2 * (((heads ps).map rt).length : Int))) none = (ps.map rt).drop (2 * (heads ps).length) := by
      have e : (2 : Int) * (((heads ps).map rt).length : Int) = ((2 * (heads ps).length : Nat) : Int) := by simp
      rw [e, cut_drop]
    have l1 : ∀ o, M.put p o l = some (.lst (ps.map rt)) := fun o => by rw [Mm.put_ne hlp]; exact hM
    refine ⟨(heads ps).map rt, seq_ref Mm.put_same, ?_⟩
    refine ⟨mulB_of (a := 64) (b := 64) (by decide) (by rw [List.length_map, heads_len]; omega) (by decide) (by decide) (by decide), ?_⟩
    refine ⟨ps.map rt, .inl (l1 _), fun p2 np2 => ?_⟩
    have h12 : p ≠ p2 := fun e => by subst e; rw [Mm.put_same] at np2; cases np2
    refine ⟨(heads ps).map rt, _, by rw [Mm.put_ne h12, Mm.put_same], Mm.put_same, ?_, fun p3 np3 => ?_⟩
    · rw [cutk]
      simp only [List.length_map, List.length_drop, sizeLine_eq, heads_len]
      omega
    · refine q p3 _ _ (Mm.le_trans (put_le np) (Mm.le_trans (put_le np2) (put_le np3))) ?_
      rw [Mm.put_same, cutk, heads_pairs ps, List.map_append, List.map_drop]

theorem sum_turns {Γ : Gm} (hΓ : Γ.gv 8 = .fn 2 sp_plus []) {d : Option D} {K : KE} : ∀ (n : Nat) (M : Mm) (l : Addr) (x : Option D) (ps : List (Int × Int)) (w : Nat), ps.length ≤ n → ps.length ≤ 1000 → Wt ps w → w ≤ 3000 → M l = some (.lst (ps.map rt)) →
    (∀ l' x' M' ps', M.le M' → M' l' = some (.lst (ps'.map rt)) → ps'.length ≤ 1 → Wt ps' w → rsum ps' = rsum ps → K.nx [d, some (.ref l'), x', none] M') → whlD (evT Γ c_sum) (evSs Γ b_sum) K (n + 1) [d, some (.ref l), x, none] M
  | n, M, l, x, ps, w, hn, hk, hw, h3, hM, q => by
    refine ⟨ps.map rt, seq_ref hM, _, rfl, ?_⟩
    rw [List.length_map]
    refine iteD (fun c => ?_) (fun c => ?_)
    · have c : 1 < ps.length := by omega
      refine ev_bs hΓ (by omega) hk (fun p hp => (hw.sz p hp).2.mono h3) hM fun l' x' M' l1 hM' => ?_
      have e := pairs_len ps
      match n, hn with
      | 0, hn => omega
      | n + 1, hn =>
        refine sum_turns hΓ n M' l' x' (pairs ps) w (by omega) (by omega) hw.pairs h3 hM' fun l2 x2 M2 ps2 l2' h1 h2 h3 h4 => ?_
        exact q l2 x2 M2 ps2 (Mm.le_trans l1 l2') h1 h2 h3 (h4.trans (rsum_pairs fun p hp => (hw.sz p hp).1.1))
    · exact q l x M ps (Mm.le_refl M) hM (by omega) hw rfl
theorem pure_sum_of {Γ : Gm} (hΓ : Γ.gv 8 = .fn 2 sp_plus []) (h2 : Γ.gv 2 = .val (rt (0, 1))) : ∀ ds M E Q, ds.length = 1 → sp_sum_of ds M E Q → bodyD Γ 4 m_sum_of ds M E Q := by
  rintro ds M E Q hl ⟨d, ps, n, rfl, hr, hw, hn, hk, q⟩
  have go : seqD M d = some (ps.map rt) := by
    rcases hr with rfl | ⟨a, rfl, h | h⟩
    · rfl
    · exact seq_ref h
    · simp only [seqD, h]
  refine ⟨_, go, fun l nl => ⟨ps.length + 1, ?_⟩⟩
  refine sum_turns hΓ ps.length _ l none ps n (Nat.le_refl _) hk hw hn Mm.put_same fun l' x' M' ps' l1 hM' h1 hw' hs => ?_
  have hle := Mm.le_trans (put_le nl) l1
  match ps', h1, hw', hs, hM' with
  | [], _, _, hs, hM' =>
    refine ⟨false, ?_, ?_⟩
    · simp only [truD, hM']; rfl
    refine iteF ?_
    have e : evE Γ (.gl 2) [some d, some (.ref l'), x', none] M' E Q := by
      show match Γ.gv 2 with | .val d => _ | _ => False
      rw [h2]
      refine q _ M' hle ⟨by show (0 : Int) < 1; decide, rfl⟩ ?_
      rw [← hs]
      show Rat.divInt 0 1 = 0
      rfl
    exact e
  | [p], _, .cons (m := m) r s t, hs, hM' =>
    refine ⟨true, ?_, ?_⟩
    · simp only [truD, hM']; rfl
    refine iteT ?_
    refine ⟨_, .inl hM', rt p, atI0 _ _, ?_⟩
    refine q p M' hle r ?_
    rw [← hs]
    show val p = val p + 0
    rw [Rat.add_zero]
end LW
namespace LW
open PySem PySem.Spec L2 DL
def m_law_some : Sms := (.cons (.set 2 (.ix (.lst (.cons (.int 1) (.cons (.int 1) (.cons (.int 1) (.cons (.int 2) (.cons (.int 3) (.cons (.int 4) (.cons (.int 10) (.cons (.op .Add (.int 1) (.call 21 (.cons (.var 0) (.cons (.op .Pow (.int 10) (.int 6)) .nil)))) .nil))))))))) (.call 21 (.cons (.var 0) (.cons (.int 8) .nil))))) (.cons (.ret (.call 23 (.cons (.op .Sub (.call 21 (.cons (.var 0) (.cons (.op .Add (.op .Mult (.op .Mult (.int 2) (.var 1)) (.var 2)) (.int 1)) .nil))) (.op .Mult (.var 1) (.var 2))) (.cons (.var 2) .nil)))) .nil))
def m_law_weight : Sms := (.cons (.set 1 (.ix (.lst (.cons (.int 1) (.cons (.int 1) (.cons (.int 2) (.cons (.int 3) (.cons (.int 7) (.cons (.op .Add (.int 1) (.call 21 (.cons (.var 0) (.cons (.op .Pow (.int 10) (.int 6)) .nil)))) .nil))))))) (.call 21 (.cons (.var 0) (.cons (.int 6) .nil))))) (.cons (.ret (.call 23 (.cons (.op .Add (.int 1) (.call 21 (.cons (.var 0) (.cons (.ix (.lst (.cons (.int 5) (.cons (.int 100) (.cons (.op .Pow (.int 10) (.int 9)) .nil)))) (.call 21 (.cons (.var 0) (.cons (.int 3) .nil)))) .nil)))) (.cons (.var 1) .nil)))) .nil))
def m_law_slot_rows : Sms := (.cons (.set 1 (.lst .nil)) (.cons (.set 2 (.ix (.lst (.cons (.int 5) (.cons (.int 20) (.cons (.int 1000) .nil)))) (.call 21 (.cons (.var 0) (.cons (.int 3) .nil))))) (.cons (.fo (.nm 3) (.rng1 (.op .Add (.int 1) (.call 21 (.cons (.var 0) (.cons (.int 6) .nil))))) (.cons (.set 4 (.call 50 (.cons (.var 0) (.cons (.var 2) .nil)))) (.cons (.ifs (.bop .And (.cons (.val (.var 1)) (.cons (.cmp .Eq (.call 21 (.cons (.var 0) (.cons (.int 4) .nil))) (.int 0)) .nil))) (.cons (.set 4 (.ix (.ix (.var 1) (.call 21 (.cons (.var 0) (.cons (.bi .len (.cons (.var 1) .nil)) .nil)))) (.int 0))) .nil) .nil) (.cons (.ifs (.cmp .Eq (.call 21 (.cons (.var 0) (.cons (.int 16) .nil))) (.int 0)) (.cons (.set 4 (.ix (.lst (.cons (.tup (.cons (.int 1000) (.cons (.int 1) .nil))) (.cons (.tup (.cons (.neg (.int 1000)) (.cons (.int 1) .nil))) .nil))) (.call 21 (.cons (.var 0) (.cons (.int 2) .nil))))) .nil) .nil) (.cons (.expr (.mth .append (.var 1) (.cons (.tup (.cons (.var 4) (.cons (.call 51 (.cons (.var 0) .nil)) .nil))) .nil))) .nil))))) (.cons (.ret (.var 1)) .nil))))
def m_law_sum : Sms := (.cons (.set 1 (.tup (.cons (.int 0) (.cons (.int 1) .nil)))) (.cons (.fo (.nm 2) (.seq (.var 0)) (.cons (.set 1 (.call 24 (.cons (.var 1) (.cons (.var 2) .nil)))) .nil)) (.cons (.ret (.var 1)) .nil)))
def m_law_most : Sms := (.cons (.ifs (.cmp .Eq (.call 21 (.cons (.var 0) (.cons (.int 2) .nil))) (.int 0)) (.cons (.ret .non) .nil) .nil) (.cons (.ret (.call 26 (.cons (.call 53 (.cons (.lc [3, 2] (.tup (.cons (.nm 3) (.cons (.nm 2) .nil))) (.seq (.var 1)) .none (.var 2)) .nil)) (.cons (.call 23 (.cons (.op .Add (.int 1) (.call 21 (.cons (.var 0) (.cons (.int 10) .nil)))) (.cons (.int 8) .nil))) .nil)))) .nil))
def m_is_sequence : Sms := (.cons (.ret (.bop .And (.cons (.bi .isi (.cons (.var 0) (.cons (.tup (.cons (.tyn .list) (.cons (.tyn .tuple) .nil))) .nil))) (.cons (.call 4 (.cons (.bi .len (.cons (.var 0) .nil)) (.cons (.var 1) (.cons (.var 2) .nil)))) .nil)))) .nil)
def m_is_between : Sms := (.cons (.ifs (.bop .Or (.cons (.not (.val (.call 5 (.cons (.var 0) .nil)))) (.cons (.cmp .Lt (.call 13 (.cons (.var 0) (.cons (.var 1) .nil))) (.int 0)) .nil))) (.cons (.ret (.bl false)) .nil) .nil) (.cons (.ret (.bop .Or (.cons (.cmp .Is (.var 2) .non) (.cons (.cmp .LtE (.call 13 (.cons (.var 0) (.cons (.var 2) .nil))) (.int 0)) .nil)))) .nil))
def m_is_above_zero : Sms := (.cons (.ret (.bop .And (.cons (.call 5 (.cons (.var 0) .nil)) (.cons (.cmp .Gt (.call 13 (.cons (.var 0) (.cons (.gl 2) .nil))) (.int 0)) .nil)))) .nil)
def m_Slots_init : Sms := (.cons (.ifs (.not (.val (.call 42 (.cons (.var 1) (.cons (.int 1) (.cons (.int 6) .nil)))))) (.cons (.raise 40 (.cons (.int 0) (.cons (.str "many") .nil))) .nil) .nil) (.cons (.fo (.tup (.cons (.nm 3) (.cons (.nm 4) .nil))) (.enm (.var 1)) (.cons (.ifs (.not (.val (.call 42 (.cons (.var 4) (.cons (.int 2) (.cons (.int 2) .nil)))))) (.cons (.raise 40 (.cons (.var 3) (.cons (.str "row") .nil))) .nil) .nil) (.cons (.ifs (.not (.val (.call 43 (.cons (.ix (.var 4) (.int 0)) (.cons (.call 6 (.cons (.neg (.int 1000)) .nil)) (.cons (.call 6 (.cons (.int 1000) .nil)) .nil)))))) (.cons (.raise 40 (.cons (.var 3) (.cons (.str "place") .nil))) .nil) .nil) (.cons (.ifs (.not (.val (.call 46 (.cons (.ix (.var 4) (.int 1)) .nil)))) (.cons (.raise 40 (.cons (.var 3) (.cons (.str "weight") .nil))) .nil) .nil) .nil)))) (.cons (.ifs (.bop .And (.cons (.cmp .IsNot (.var 2) .non) (.cons (.not (.val (.call 46 (.cons (.var 2) .nil)))) .nil))) (.cons (.raise 40 (.cons (.int 0) (.cons (.str "most") .nil))) .nil) .nil) (.cons (.setF (.var 0) "rows" (.bi .tuple (.cons (.lc [4] (.nm 4) (.seq (.var 1)) .none (.bi .tuple (.cons (.var 4) .nil))) .nil))) (.cons (.setF (.var 0) "most" (.var 2)) .nil)))))
def m_law_pick : Sms := (.cons (.ret (.ix (.var 1) (.call 21 (.cons (.var 0) (.cons (.bi .len (.cons (.var 1) .nil)) .nil))))) .nil)
def m_law_amounts27 : Sms := (.cons (.set 3 (.lst .nil)) (.cons (.fo (.tup (.cons (.nm 4) (.cons (.nm 5) .nil))) (.seq (.var 1)) (.cons (.set 6 (.call 49 (.cons (.var 0) (.cons (.lst (.cons (.tup (.cons (.int 0) (.cons (.int 1) .nil))) (.cons (.tup (.cons (.int 1) (.cons (.int 1) .nil))) (.cons (.tup (.cons (.int 1) (.cons (.int 2) .nil))) (.cons (.call 23 (.cons (.call 21 (.cons (.var 0) (.cons (.int 101) .nil))) (.cons (.int 100) .nil))) .nil))))) .nil)))) (.cons (.expr (.mth .append (.var 3) (.cons (.call 26 (.cons (.var 5) (.cons (.var 6) .nil))) .nil))) .nil))) (.cons (.set 7 (.call 53 (.cons (.var 3) .nil))) (.cons (.ifs (.bop .And (.cons (.cmp .IsNot (.var 2) .non) (.cons (.cmp .Gt (.call 27 (.cons (.var 7) (.cons (.var 2) .nil))) (.int 0)) .nil))) (.cons (.set 6 (.call 23 (.cons (.op .Mult (.ix (.var 2) (.int 0)) (.ix (.var 7) (.int 1))) (.cons (.op .Mult (.ix (.var 2) (.int 1)) (.ix (.var 7) (.int 0))) .nil)))) (.cons (.setLc 3 [8] (.nm 8) (.seq (.var 3)) .none (.call 26 (.cons (.var 8) (.cons (.var 6) .nil)))) .nil)) .nil) (.cons (.ret (.bi .tuple (.cons (.var 3) .nil))) .nil)))))
def m_law_cargo_of27 : Sms := (.cons (.setT (.tup (.cons (.nm 2) (.cons (.nm 3) .nil))) (.tup (.cons (.tup (.cons (.int 0) (.cons (.int 1) .nil))) (.cons (.tup (.cons (.int 0) (.cons (.int 1) .nil))) .nil)))) (.cons (.fo (.tup (.cons (.nm 4) (.cons (.nm 5) .nil))) (.enm (.var 1)) (.cons (.set 2 (.call 24 (.cons (.var 2) (.cons (.var 5) .nil)))) (.cons (.set 3 (.call 24 (.cons (.var 3) (.cons (.call 26 (.cons (.var 5) (.cons (.ix (.ix (.var 0) (.var 4)) (.int 0)) .nil))) .nil)))) .nil))) (.cons (.ret (.tup (.cons (.var 2) (.cons (.var 3) .nil)))) .nil)))
def m_law_spoilt27 : Sms := (.cons (.set 3 (.bi .list (.cons (.var 2) .nil))) (.cons (.fo (.nm 4) (.rng1 (.bi .len (.cons (.var 3) .nil))) (.cons (.set 5 (.call 21 (.cons (.var 0) (.cons (.int 8) .nil)))) (.cons (.ifs (.cmp .Eq (.var 5) (.int 0)) (.cons (.setS (.var 3) (.var 4) (.call 49 (.cons (.var 0) (.cons (.lst (.cons (.int 0) (.cons .non (.cons (.tup (.cons (.int 2) (.cons (.int 4) .nil))) (.cons (.lst (.cons (.int 1) (.cons (.int 2) .nil))) (.cons (.str "1") (.cons (.tup (.cons (.int 1) (.cons (.int 0) .nil))) (.cons (.int 3) .nil)))))))) .nil)))) .nil) .nil) (.cons (.ifs (.cmp .Eq (.var 5) (.int 1)) (.cons (.setS (.var 3) (.var 4) (.call 49 (.cons (.var 0) (.cons (.lst (.cons (.tup (.cons (.neg (.int 1)) (.cons (.int 1) .nil))) (.cons (.tup (.cons (.neg (.int 1)) (.cons (.op .Pow (.int 10) (.int 9)) .nil))) (.cons (.tup (.cons (.neg (.int 5)) (.cons (.int 3) .nil))) .nil)))) .nil)))) .nil) .nil) (.cons (.ifs (.cmp .Eq (.var 5) (.int 2)) (.cons (.setS (.var 3) (.var 4) (.call 24 (.cons (.ix (.ix (.var 1) (.var 4)) (.int 1)) (.cons (.call 23 (.cons (.int 1) (.cons (.op .Add (.int 1) (.call 21 (.cons (.var 0) (.cons (.op .Pow (.int 10) (.int 9)) .nil)))) .nil))) .nil)))) .nil) .nil) (.cons (.ifs (.cmp .Eq (.var 5) (.int 3)) (.cons (.setS (.var 3) (.var 4) (.ix (.ix (.var 1) (.var 4)) (.int 1))) .nil) .nil) .nil)))))) (.cons (.set 5 (.call 21 (.cons (.var 0) (.cons (.int 10) .nil)))) (.cons (.ifs (.cmp .Eq (.var 5) (.int 0)) (.cons (.ret (.call 49 (.cons (.var 0) (.cons (.lst (.cons .non (.cons (.int 5) (.cons (.slc (.var 3) .none (.some (.neg (.int 1)))) (.cons (.op .Add (.var 3) (.lst (.cons (.tup (.cons (.int 0) (.cons (.int 1) .nil))) .nil))) (.cons (.str "ab") (.cons (.lst .nil) .nil))))))) .nil)))) .nil) .nil) (.cons (.ret (.ite (.cmp .Eq (.op .Mod (.bi .int (.cons (.var 5) .nil)) (.int 2)) (.int 0)) (.bi .tuple (.cons (.var 3) .nil)) (.var 3))) .nil)))))
def m_law_is_ratio2 : Sms := (.cons (.ifs (.bop .Or (.cons (.not (.val (.bi .isi (.cons (.var 0) (.cons (.tyn .tuple) .nil))))) (.cons (.cmp .NotEq (.bi .len (.cons (.var 0) .nil)) (.int 2)) .nil))) (.cons (.ret (.bl false)) .nil) .nil) (.cons (.fo (.nm 1) (.seq (.var 0)) (.cons (.ifs (.bop .Or (.cons (.not (.val (.bi .isi (.cons (.var 1) (.cons (.tyn .int) .nil))))) (.cons (.val (.bi .isi (.cons (.var 1) (.cons (.tyn .bool) .nil)))) .nil))) (.cons (.ret (.bl false)) .nil) .nil) .nil)) (.cons (.ret (.bop .And (.cons (.cmp .Gt (.ix (.var 0) (.int 1)) (.int 0)) (.cons (.cmp .Eq (.call 22 (.cons (.ix (.var 0) (.int 0)) (.cons (.ix (.var 0) (.int 1)) .nil))) (.int 1)) .nil)))) .nil)))
def m_law_made_due27 : Sms := (.cons (.ifs (.bop .Or (.cons (.not (.val (.bi .isi (.cons (.var 1) (.cons (.tup (.cons (.tyn .list) (.cons (.tyn .tuple) .nil))) .nil))))) (.cons (.cmp .NotEq (.bi .len (.cons (.var 1) .nil)) (.bi .len (.cons (.var 0) .nil))) .nil))) (.cons (.ret (.str "length")) .nil) .nil) (.cons (.ifs (.cmp .NotEq (.lc [2] (.nm 2) (.seq (.var 1)) (.some (.not (.val (.call 30 (.cons (.var 2) .nil))))) (.var 2)) (.lst .nil)) (.cons (.ret (.str "amount")) .nil) .nil) (.cons (.ret (.call 55 (.cons (.var 0) (.cons (.var 1) .nil)))) .nil)))
def m_Slots_len : Sms := (.cons (.ret (.bi .len (.cons (.fld (.var 0) "rows") .nil))) .nil)
def m_cargo_by : Sms := (.cons (.ifs (.not (.val (.call 42 (.cons (.var 1) (.cons (.lno 45 (.var 0)) (.cons (.lno 45 (.var 0)) .nil)))))) (.cons (.raise 41 (.cons (.str "length") .nil)) .nil) .nil) (.cons (.ifs (.not (.val (.bi .all (.cons (.lc [3] (.nm 3) (.seq (.var 1)) .none (.call 5 (.cons (.var 3) .nil))) .nil)))) (.cons (.raise 41 (.cons (.str "amount") .nil)) .nil) .nil) (.cons (.setLc 2 [3, 4] (.tup (.cons (.nm 3) (.cons (.nm 4) .nil))) (.zip (.var 1) (.fld (.var 0) "rows")) .none (.call 10 (.cons (.var 3) (.cons (.ix (.var 4) (.int 0)) .nil)))) (.cons (.ret (.tup (.cons (.call 14 (.cons (.var 1) .nil)) (.cons (.call 14 (.cons (.var 2) .nil)) .nil)))) .nil))))
def m_check_cargo : Sms := (.cons (.ifs (.not (.val (.call 42 (.cons (.var 0) (.cons (.int 2) (.cons (.int 2) .nil)))))) (.cons (.raise 39 (.cons (.str "pair") .nil)) .nil) .nil) (.cons (.ifs (.not (.val (.call 43 (.cons (.ix (.var 0) (.int 0)) (.cons (.gl 2) .nil))))) (.cons (.raise 39 (.cons (.str "weight") .nil)) .nil) .nil) (.cons (.ifs (.not (.val (.call 5 (.cons (.ix (.var 0) (.int 1)) .nil)))) (.cons (.raise 39 (.cons (.str "moment") .nil)) .nil) .nil) (.cons (.ret (.bi .tuple (.cons (.var 0) .nil))) .nil))))
def m_stowage_fault : Sms := (.cons (.setT (.tup (.cons (.nm 3) (.cons (.nm 4) .nil))) (.call 44 (.cons (.var 2) .nil))) (.cons (.ifs (.not (.val (.call 42 (.cons (.var 1) (.cons (.lno 45 (.var 0)) (.cons (.lno 45 (.var 0)) .nil)))))) (.cons (.ret (.str "length")) .nil) .nil) (.cons (.fo (.tup (.cons (.nm 5) (.cons (.nm 6) .nil))) (.zip (.var 1) (.fld (.var 0) "rows")) (.cons (.ifs (.not (.val (.call 43 (.cons (.var 5) (.cons (.gl 2) .nil))))) (.cons (.ret (.str "amount")) .nil) .nil) (.cons (.ifs (.cmp .Gt (.call 13 (.cons (.var 5) (.cons (.ix (.var 6) (.int 1)) .nil))) (.int 0)) (.cons (.ret (.str "slot")) .nil) .nil) .nil))) (.cons (.setT (.tup (.cons (.nm 7) (.cons (.nm 8) .nil))) (.call 47 (.cons (.var 0) (.cons (.var 1) .nil)))) (.cons (.ifs (.bop .And (.cons (.cmp .IsNot (.fld (.var 0) "most") .non) (.cons (.cmp .Gt (.call 13 (.cons (.var 7) (.cons (.fld (.var 0) "most") .nil))) (.int 0)) .nil))) (.cons (.ret (.str "most")) .nil) .nil) (.cons (.ifs (.cmp .NotEq (.var 7) (.var 3)) (.cons (.ret (.str "weight")) .nil) .nil) (.cons (.ret (.ite (.cmp .Eq (.var 8) (.var 4)) .non (.str "moment"))) .nil)))))))
def m_law_fault27 : Sms := (.cons (.trA (.cons (.ret (.call 48 (.cons (.var 0) (.cons (.var 1) (.cons (.var 2) .nil))))) .nil) 3 39 (.cons (.ret (.tup (.cons (.str "cargo") (.cons (.xfl (.var 3) "what") .nil)))) .nil)) .nil)
def m_law_due27 : Sms := (.cons (.ifs (.bop .Or (.cons (.not (.val (.bi .isi (.cons (.var 2) (.cons (.tup (.cons (.tyn .list) (.cons (.tyn .tuple) .nil))) .nil))))) (.cons (.cmp .NotEq (.bi .len (.cons (.var 2) .nil)) (.bi .len (.cons (.var 0) .nil))) .nil))) (.cons (.ret (.str "length")) .nil) .nil) (.cons (.fo (.tup (.cons (.nm 4) (.cons (.nm 5) .nil))) (.enm (.var 2)) (.cons (.ifs (.bop .Or (.cons (.not (.val (.call 30 (.cons (.var 5) .nil)))) (.cons (.cmp .Lt (.ix (.var 5) (.int 0)) (.int 0)) .nil))) (.cons (.ret (.str "amount")) .nil) .nil) (.cons (.ifs (.cmp .Gt (.call 27 (.cons (.var 5) (.cons (.ix (.ix (.var 0) (.var 4)) (.int 1)) .nil))) (.int 0)) (.cons (.ret (.str "slot")) .nil) .nil) .nil))) (.cons (.set 6 (.call 55 (.cons (.var 0) (.cons (.var 2) .nil)))) (.cons (.ifs (.bop .And (.cons (.cmp .IsNot (.var 1) .non) (.cons (.cmp .Gt (.call 27 (.cons (.ix (.var 6) (.int 0)) (.cons (.var 1) .nil))) (.int 0)) .nil))) (.cons (.ret (.str "most")) .nil) .nil) (.cons (.ifs (.cmp .NotEq (.ix (.var 6) (.int 0)) (.ix (.var 3) (.int 0))) (.cons (.ret (.str "weight")) .nil) .nil) (.cons (.ret (.ite (.cmp .Eq (.ix (.var 6) (.int 1)) (.ix (.var 3) (.int 1))) .non (.str "moment"))) .nil))))))
def m_law_made_by27 : Sms := (.cons (.trA (.cons (.ret (.call 47 (.cons (.var 0) (.cons (.var 1) .nil)))) .nil) 2 41 (.cons (.ret (.xfl (.var 2) "what")) .nil)) .nil)
def m_law27 : Sms := (.cons (.set 1 (.call 20 (.cons (.var 0) .nil))) (.cons (.set 2 (.call 52 (.cons (.var 1) .nil))) (.cons (.set 3 (.call 54 (.cons (.var 1) (.cons (.var 2) .nil)))) (.cons (.set 4 (.mk 45 (.cons (.var 2) (.cons (.var 3) .nil)))) (.cons (.set 5 (.call 56 (.cons (.var 1) (.cons (.var 2) (.cons (.var 3) .nil))))) (.cons (.set 6 (.call 55 (.cons (.var 2) (.cons (.var 5) .nil)))) (.cons (.ifs (.bop .Or (.cons (.cmp .IsNot (.call 48 (.cons (.var 4) (.cons (.var 5) (.cons (.var 6) .nil)))) .non) (.cons (.cmp .IsNot (.call 48 (.cons (.var 4) (.cons (.bi .list (.cons (.var 5) .nil)) (.cons (.bi .list (.cons (.var 6) .nil)) .nil)))) .non) .nil))) (.cons (.ret (.bl false)) .nil) .nil) (.cons (.ifs (.cmp .NotEq (.call 47 (.cons (.var 4) (.cons (.var 5) .nil))) (.var 6)) (.cons (.ret (.bl false)) .nil) .nil) (.cons (.set 7 (.call 57 (.cons (.var 1) (.cons (.var 2) (.cons (.var 5) .nil))))) (.cons (.ifs (.cmp .NotEq (.call 59 (.cons (.var 4) (.cons (.var 7) (.cons (.var 6) .nil)))) (.call 58 (.cons (.var 2) (.cons (.var 3) (.cons (.var 7) (.cons (.var 6) .nil)))))) (.cons (.ret (.bl false)) .nil) .nil) (.cons (.ifs (.cmp .NotEq (.call 60 (.cons (.var 4) (.cons (.var 7) .nil))) (.call 61 (.cons (.var 2) (.cons (.var 7) .nil)))) (.cons (.ret (.bl false)) .nil) .nil) (.cons (.set 8 (.call 61 (.cons (.var 2) (.cons (.var 7) .nil)))) (.cons (.ifs (.bop .And (.cons (.val (.bi .isi (.cons (.var 8) (.cons (.tyn .tuple) .nil)))) (.cons (.cmp .GtE (.ix (.ix (.var 8) (.int 0)) (.int 0)) (.int 0)) (.cons (.cmp .NotEq (.call 59 (.cons (.var 4) (.cons (.var 7) (.cons (.var 8) .nil)))) (.call 58 (.cons (.var 2) (.cons (.var 3) (.cons (.var 7) (.cons (.var 8) .nil)))))) .nil)))) (.cons (.ret (.bl false)) .nil) .nil) (.cons (.setLc 9 [16, 15] (.tup (.cons (.nm 16) (.cons (.nm 15) .nil))) (.seq (.var 2)) .none (.var 15)) (.cons (.ifs (.cmp .NotEq (.call 59 (.cons (.var 4) (.cons (.var 9) (.cons (.call 55 (.cons (.var 2) (.cons (.var 9) .nil))) .nil)))) (.call 58 (.cons (.var 2) (.cons (.var 3) (.cons (.var 9) (.cons (.call 55 (.cons (.var 2) (.cons (.var 9) .nil))) .nil)))))) (.cons (.ret (.bl false)) .nil) .nil) (.cons (.set 10 (.call 23 (.cons (.int 1) (.cons (.op .Add (.int 1) (.call 21 (.cons (.var 1) (.cons (.op .Pow (.int 10) (.int 9)) .nil)))) .nil)))) (.cons (.set 11 (.call 24 (.cons (.ix (.var 6) (.int 0)) (.cons (.var 10) .nil)))) (.cons (.set 12 (.ix (.lst (.cons (.tup (.cons (.ix (.var 6) (.int 0)) (.cons (.call 24 (.cons (.ix (.var 6) (.int 1)) (.cons (.var 10) .nil))) .nil))) (.cons (.tup (.cons (.var 11) (.cons (.ix (.var 6) (.int 1)) .nil))) (.cons (.tup (.cons (.var 11) (.cons (.call 25 (.cons (.ix (.var 6) (.int 1)) (.cons (.var 10) .nil))) .nil))) .nil)))) (.call 21 (.cons (.var 1) (.cons (.int 3) .nil))))) (.cons (.ifs (.cmp .NotEq (.call 59 (.cons (.var 4) (.cons (.var 5) (.cons (.var 12) .nil)))) (.call 58 (.cons (.var 2) (.cons (.var 3) (.cons (.var 5) (.cons (.var 12) .nil)))))) (.cons (.ret (.bl false)) .nil) .nil) (.cons (.setT (.tup (.cons (.nm 13) (.cons (.nm 14) .nil))) (.ix (.lst (.cons (.tup (.cons .non (.cons (.str "pair") .nil))) (.cons (.tup (.cons (.tup .nil) (.cons (.str "pair") .nil))) (.cons (.tup (.cons (.tup (.cons (.ix (.var 6) (.int 0)) .nil)) (.cons (.str "pair") .nil))) (.cons (.tup (.cons (.tup (.cons (.tup (.cons (.neg (.int 1)) (.cons (.int 3) .nil))) (.cons (.ix (.var 6) (.int 1)) .nil))) (.cons (.str "weight") .nil))) (.cons (.tup (.cons (.tup (.cons (.int 4) (.cons (.ix (.var 6) (.int 1)) .nil))) (.cons (.str "weight") .nil))) (.cons (.tup (.cons (.tup (.cons (.ix (.var 6) (.int 0)) (.cons (.int 4) .nil))) (.cons (.str "moment") .nil))) (.cons (.tup (.cons (.tup (.cons (.tup (.cons (.neg (.int 1)) (.cons (.int 1) .nil))) (.cons .non .nil))) (.cons (.str "weight") .nil))) .nil)))))))) (.call 21 (.cons (.var 1) (.cons (.int 7) .nil))))) (.cons (.ifs (.cmp .NotEq (.call 59 (.cons (.var 4) (.cons (.var 7) (.cons (.var 13) .nil)))) (.tup (.cons (.str "cargo") (.cons (.var 14) .nil)))) (.cons (.ret (.bl false)) .nil) .nil) (.cons (.ret (.bop .And (.cons (.cmp .Is (.call 48 (.cons (.var 4) (.cons (.var 5) (.cons (.var 6) .nil)))) .non) (.cons (.cmp .Eq (.fld (.var 4) "rows") (.bi .tuple (.cons (.var 2) .nil))) .nil)))) .nil))))))))))))))))))))))
end LW
namespace LW
open PySem PySem.Spec L2 DL
/-! ### things and their items -/
def Am (M : Mm) (d : D) (am : Option (List D)) : Prop := match am with
  | some xs => d = .tup xs ∨ ∃ a, d = .ref a ∧ (M a = some (.lst xs) ∨ M a = some (.rol xs))
  | none => d = .non ∨ (∃ b, d = .bl b) ∨ (∃ i, d = .int i) ∨ ∃ s, d = .str s
theorem isi_am {M : Mm} {d : D} {am : Option (List D)} (h : Am M d am) : isiD M d (.tup [.ty "list", .ty "tuple"]) = some am.isSome := by
  cases am with
  | some xs =>
    rcases h with rfl | ⟨a, rfl, h | h⟩
    · rfl
    · simp only [isiD, Ty.of, h]; rfl
    · simp only [isiD, Ty.of, h]; rfl
  | none => rcases h with rfl | ⟨b, rfl⟩ | ⟨i, rfl⟩ | ⟨s, rfl⟩ <;> rfl
theorem am_seq {M : Mm} {d : D} {xs : List D} (h : Am M d (some xs)) : seqD M d = some xs := by
  rcases h with rfl | ⟨a, rfl, h | h⟩
  · rfl
  · simp only [seqD, h]
  · simp only [seqD, h]
theorem len_am {M : Mm} {d : D} {xs : List D} {Q : QD} (h : Am M d (some xs)) (q : Q (.int xs.length) M) : biD .len [d] M Q := by
  rcases h with rfl | ⟨a, rfl, h⟩
  · exact ⟨xs, rfl, q⟩
  · exact ⟨xs, am_seq (.inr ⟨a, rfl, h⟩), q⟩
theorem am_seqI {M : Mm} {d : D} {xs : List D} {Q : List D → (Mm → Prop) → Mm → Prop} (h : Am M d (some xs)) (q : ∀ G : Mm → Prop, (∀ M', Am M' d (some xs) → G M') → Q xs G M) : seqI d M Q := by
  rcases h with rfl | ⟨a, rfl, h⟩
  · exact q _ fun _ _ => trivial
  · refine ⟨xs, h, q _ fun M' h' => ?_⟩
    rcases h' with h' | ⟨b, e, h'⟩
    · cases h'
    · cases e; exact h'
theorem Am.le {M M' : Mm} {d : D} {am : Option (List D)} (l : M.le M') (h : Am M d am) : Am M' d am := by
  cases am with
  | some xs =>
    rcases h with rfl | ⟨a, rfl, h | h⟩
    · exact .inl rfl
    · exact .inr ⟨a, rfl, .inl (l _ _ h)⟩
    · exact .inr ⟨a, rfl, .inr (l _ _ h)⟩
  | none => exact h
/-- a thing that is_ratio can be asked of -/
def Cmp (M : Mm) (d : D) : Prop := Tyd M d ∧ ∀ x y, d = .tup [x, y] → Tyd M x ∧ Tyd M y
theorem Tyd.le {M M' : Mm} {d : D} (l : M.le M') (h : Tyd M d) : Tyd M' d := by
  obtain ⟨t, ht⟩ := h
  cases d with
  | ref a =>
    simp only [Ty.of] at ht
    cases e : M a with
    | none => rw [e] at ht; cases ht
    | some o =>
      refine ⟨t, ?_⟩
      simp only [Ty.of, l _ _ e]
      rw [e] at ht
      exact ht
  | _ => exact ⟨t, ht⟩
theorem Cmp.le {M M' : Mm} {d : D} (l : M.le M') (h : Cmp M d) : Cmp M' d := ⟨h.1.le l, fun x y e => ⟨(h.2 x y e).1.le l, (h.2 x y e).2.le l⟩⟩
theorem Am.tyd {M : Mm} {d : D} {am : Option (List D)} (h : Am M d am) : Tyd M d := by
  cases am with
  | some xs =>
    rcases h with rfl | ⟨a, rfl, h | h⟩
    · exact ⟨.tuple, rfl⟩
    · exact ⟨.list, by simp only [Ty.of, h]⟩
    · exact ⟨.list, by simp only [Ty.of, h]⟩
  | none => rcases h with rfl | ⟨b, rfl⟩ | ⟨i, rfl⟩ | ⟨s, rfl⟩ <;> exact ⟨_, rfl⟩
def ratO (d : D) : Option (Int × Int) := match d with
  | .tup [.int a, .int b] => if ratP (.tup [.int a, .int b]) = true then some (a, b) else none
  | _ => none
theorem ratP_inv {d : D} (h : ratP d = true) : ∃ p, d = rt p ∧ Red p := by
  match d, h with
  | .tup [x, y], h =>
    simp only [ratP, Bool.and_eq_true] at h
    obtain ⟨h1, h2, h3⟩ := h
    obtain ⟨a, rfl⟩ := wh_int h1
    obtain ⟨b, rfl⟩ := wh_int h2
    refine ⟨(a, b), rfl, ?_, ?_⟩
    · have : decide ((1 : Int) ≤ b) = true := by simpa [whP] using h2
      have := of_decide_eq_true this
      show (0 : Int) < b
      omega
    · have z := of_decide_eq_true h3
      show Nat.gcd a.natAbs b.natAbs = 1
      omega
theorem ratO_some {d : D} {p : Int × Int} (h : ratO d = some p) : d = rt p ∧ Red p := by
  unfold ratO at h
  split at h
  · rename_i a b
    split at h
    · rename_i e
      cases h
      obtain ⟨p, e1, r⟩ := ratP_inv e
      cases e1
      exact ⟨rfl, r⟩
    · cases h
  · cases h
theorem ratO_red {p : Int × Int} (r : Red p) : ratO (rt p) = some p := by
  have e : ratP (rt p) = true := by
    simp only [ratP, whP, gcd1, Bool.and_eq_true, decide_eq_true_eq, Bool.true_and, Bool.and_true]
    have := r.1; have := r.2
    exact ⟨by omega, by omega⟩
  show (if ratP (rt p) = true then some (p.1, p.2) else none) = _
  rw [if_pos e]
theorem ratO_none {d : D} (h : ratO d = none) : ratP d = false := by
  cases e : ratP d with
  | false => rfl
  | true =>
    obtain ⟨p, rfl, r⟩ := ratP_inv e
    rw [ratO_red r] at h
    cases h
theorem ratO_P (d : D) : ratP d = (ratO d).isSome := by
  cases e : ratO d with
  | none => rw [ratO_none e]; rfl
  | some p =>
    obtain ⟨rfl, r⟩ := ratO_some e
    cases h : ratP (rt p) with
    | true => rfl
    | false =>
      have : ratO (rt p) = none := by
        show (if ratP (rt p) = true then some (p.1, p.2) else none) = none
        rw [h]; rfl
      rw [this] at e; cases e
def Sml (n : Nat) (d : D) : Prop := ∀ p, ratO d = some p → Sz n p
theorem Sml.mono {n m : Nat} {d : D} (h : Sml n d) (l : n ≤ m) : Sml m d := fun p e => (h p e).mono l
def optD : Option (Int × Int) → D
  | none => .non
  | some q => rt q
def btwP (d : D) (l : Int × Int) (h : Option (Int × Int)) : Bool := match ratO d with
  | none => false
  | some p => !decide (cmpP p l < 0) && (match h with | none => true | some q => decide (cmpP p q ≤ 0))
def seqP (am : Option (List D)) (lo hi : D) : Bool := match am with
  | none => false
  | some xs => whP (.int xs.length) lo hi
def sp_is_sequence : DSp := fun ds M _ Q => ∃ d am lo hi, ds = [d, lo, hi] ∧ Am M d am ∧ Bnd lo ∧ Bnd hi ∧ Q (.bl (seqP am lo hi)) M
theorem pure_is_sequence {Γ : Gm} (hW : Γ.gv 4 = .fn 3 sp_is_whole [.non, .non]) : ∀ ds M E Q, ds.length = 3 → sp_is_sequence ds M E Q → bodyD Γ 3 m_is_sequence ds M E Q := by
  rintro ds M E Q hl ⟨d, am, lo, hi, rfl, hA, bl, bh, q⟩
  refine ⟨by rw [sizeLine_eq]; show 2 ≤ _; decide, _, isi_am hA, ?_⟩
  cases am with
  | none => exact q
  | some xs =>
    rcases hA with rfl | ⟨a, rfl, h⟩
    · exact ⟨xs, rfl, whole_call3 hW ⟨.int, rfl⟩ bl bh q⟩
    · exact ⟨xs, am_seq (.inr ⟨a, rfl, h⟩), whole_call3 hW ⟨.int, rfl⟩ bl bh q⟩
theorem seq_call {Γ : Gm} (hΓ : Γ.gv 42 = .fn 3 sp_is_sequence [.int 0, .non]) {d lo hi : D} {am : Option (List D)} {M : Mm} {E : EK} {Q : QD} (hA : Am M d am) (bl : Bnd lo) (bh : Bnd hi) (q : Q (.bl (seqP am lo hi)) M) : callD (Γ.gv 42) 3 [d, lo, hi] M E Q := by
  rw [hΓ]
  exact ⟨Nat.le_refl _, by decide, rfl, d, am, lo, hi, rfl, hA, bl, bh, q⟩
def sp_is_between : DSp := fun ds M _ Q => ∃ d l h, ds = [d, rt l, optD h] ∧ Cmp M d ∧ Sml 3000 d ∧ Sz 3000 l ∧ (∀ q, h = some q → Sz 3000 q) ∧ Q (.bl (btwP d l h)) M
theorem optD_is {M : Mm} (h : Option (Int × Int)) : cmpD M .Is (optD h) .non = some (match h with | none => true | some _ => false) := by
  cases h <;> rfl
theorem pure_is_between {Γ : Gm} (h5 : Γ.gv 5 = .fn 1 sp_is_ratio []) (h13 : Γ.gv 13 = .fn 2 sp_compare []) : ∀ ds M E Q, ds.length = 3 → sp_is_between ds M E Q → bodyD Γ 3 m_is_between ds M E Q := by
  rintro ds M E Q hl ⟨d, l, h, rfl, hd, hs, hz, hh, q⟩
  refine rat_call h5 hd.1 hd.2 ⟨_, rfl, ?_⟩
  unfold btwP at q
  rw [ratO_P d]
  cases e : ratO d with
  | none =>
    rw [e] at q
    exact iteT q
  | some p =>
    rw [e] at q
    obtain ⟨rfl, r⟩ := ratO_some e
    have sp := hs p e
    refine cmp_call h13 sp hz ⟨_, rfl, ?_⟩
    refine iteD (fun c => ?_) (fun c => ?_)
    · have e2 : (!decide (cmpP p l < 0)) = false := by rw [decide_eq_true c]; rfl
      simp only [e2, Bool.false_and] at q
      exact q
    · have e2 : (!decide (cmpP p l < 0)) = true := by rw [decide_eq_false c]; rfl
      simp only [e2, Bool.true_and] at q
      refine ⟨_, optD_is h, ?_⟩
      cases h with
      | none => exact q
      | some u => exact cmp_call h13 sp (hh u rfl) ⟨_, rfl, q⟩
theorem btw_call {Γ : Gm} (hΓ : Γ.gv 43 = .fn 3 sp_is_between [.non]) {d : D} {l : Int × Int} {M : Mm} {E : EK} {Q : QD} (hd : Cmp M d) (hs : Sml 3000 d) (hz : Sz 3000 l) (q : Q (.bl (btwP d l none)) M) : callD (Γ.gv 43) 2 [d, rt l] M E Q := by
  rw [hΓ]
  exact ⟨by decide, by decide, rfl, d, l, none, rfl, hd, hs, hz, fun _ h => (by cases h), q⟩
theorem btw_call3 {Γ : Gm} (hΓ : Γ.gv 43 = .fn 3 sp_is_between [.non]) {d : D} {l u : Int × Int} {M : Mm} {E : EK} {Q : QD} (hd : Cmp M d) (hs : Sml 3000 d) (hz : Sz 3000 l) (hu : Sz 3000 u) (q : Q (.bl (btwP d l (some u))) M) : callD (Γ.gv 43) 3 [d, rt l, rt u] M E Q := by
  rw [hΓ]
  exact ⟨by decide, by decide, rfl, d, l, some u, rfl, hd, hs, hz, fun _ h => (by cases h; exact hu), q⟩
/-- signs of comparisons -/
theorem cmp_zero1 (p : Int × Int) : cmpP p (0, 1) = if p.1 = 0 then 0 else if 0 < p.1 then 1 else -1 := by
  unfold cmpP
  simp
theorem cmp_ge0 (p : Int × Int) : (cmpP p (0, 1) < 0) ↔ p.1 < 0 := by
  rw [cmp_zero1]
  split
  · omega
  · split <;> omega
theorem cmp_gt0 (p : Int × Int) : (0 < cmpP p (0, 1)) ↔ 0 < p.1 := by
  rw [cmp_zero1]
  split
  · omega
  · split <;> omega
theorem cmp_le (p q : Int × Int) : cmpP p q ≤ 0 ↔ p.1 * q.2 ≤ q.1 * p.2 := by
  unfold cmpP
  generalize p.1 * q.2 = x
  generalize q.1 * p.2 = y
  split
  · omega
  · split <;> omega
theorem cmp_pos (p q : Int × Int) : 0 < cmpP p q ↔ q.1 * p.2 < p.1 * q.2 := by
  have := cmp_le p q
  omega
theorem cmp_neg (p q : Int × Int) : cmpP p q < 0 ↔ p.1 * q.2 < q.1 * p.2 := by
  have := cmp_pos q p
  rw [cmp_anti p q] at this
  omega
theorem sz01 : Sz 3000 ((0, 1) : Int × Int) := ⟨by show 0 < 2 ^ 3000; exact Nat.two_pow_pos _, by show 1 < 2 ^ 3000; exact Nat.one_lt_two_pow (by decide), by decide⟩
def sp_is_above_zero : DSp := fun ds M _ Q => ∃ d, ds = [d] ∧ Cmp M d ∧ Sml 3000 d ∧ Q (.bl (match ratO d with | none => false | some p => decide (0 < p.1))) M
theorem pure_is_above_zero {Γ : Gm} (h2 : Γ.gv 2 = .val (rt (0, 1))) (h5 : Γ.gv 5 = .fn 1 sp_is_ratio []) (h13 : Γ.gv 13 = .fn 2 sp_compare []) : ∀ ds M E Q, ds.length = 1 → sp_is_above_zero ds M E Q → bodyD Γ 1 m_is_above_zero ds M E Q := by
  rintro ds M E Q hl ⟨d, rfl, hd, hs, q⟩
  refine rat_call h5 hd.1 hd.2 ?_
  rw [ratO_P d]
  cases e : ratO d with
  | none => rw [e] at q; exact q
  | some p =>
    rw [e] at q
    obtain ⟨rfl, r⟩ := ratO_some e
    show match Γ.gv 2 with | .val d => _ | _ => False
    rw [h2]
    refine cmp_call h13 (hs p e) sz01 ⟨_, rfl, ?_⟩
    have e2 : decide (0 < cmpP p (0, 1)) = decide (0 < p.1) := by rw [decide_eq_decide]; exact cmp_gt0 p
    rw [e2]
    exact q
theorem abv_call {Γ : Gm} (hΓ : Γ.gv 46 = .fn 1 sp_is_above_zero []) {d : D} {M : Mm} {E : EK} {Q : QD} (hd : Cmp M d) (hs : Sml 3000 d) (q : Q (.bl (match ratO d with | none => false | some p => decide (0 < p.1))) M) : callD (Γ.gv 46) 1 [d] M E Q := by
  rw [hΓ]
  exact ⟨Nat.le_refl _, Nat.le_refl _, rfl, d, rfl, hd, hs, q⟩
/-! ### errors by their words -/
theorem raise_w {Γ : Gm} {g : Nat} {C : Addr} (h1 : Γ.gv g = .err C ["what"] [0]) {w : Str} (hw : w.length ≤ 1000) {M : Mm} {ρ : DEnv} {K : KE} (h : ∀ dd, M dd = none → K.ex ⟨C, some dd⟩ ρ (M.put dd (.exd [("what", .str w)]))) : evS Γ (.raise g (.cons (.str w) .nil)) ρ M K := by
  refine ⟨by rw [h1]; trivial, ?_⟩
  show raiseD Γ g [.str w] M fun x M2 => K.ex x ρ M2
  unfold raiseD
  rw [h1]
  have n1 : (["what"] : List Str) ≠ [] := List.cons_ne_nil _ _
  have n2 : ∀ i ∈ [0], ∃ d, ([.str w] : List D)[i]? = some d ∧ TxtD d := fun i hi => by
    have e : i = 0 := by simpa using hi
    subst e
    exact ⟨.str w, rfl, hw⟩
  exact ⟨n1, rfl, n2, h⟩
theorem raise_iw {Γ : Gm} {g : Nat} {C : Addr} (h1 : Γ.gv g = .err C ["index", "what"] [0, 1]) {w : Str} (hw : w.length ≤ 1000) {e : Ex} {k : Int} (hk : k.natAbs.log2 < 1920) {M : Mm} {ρ : DEnv} {K : KE} (he : ∀ E Q, Q (.int k) M → evE Γ e ρ M E Q)
    (h : ∀ dd, M dd = none → K.ex ⟨C, some dd⟩ ρ (M.put dd (.exd [("index", .int k), ("what", .str w)]))) : evS Γ (.raise g (.cons e (.cons (.str w) .nil))) ρ M K := by
  refine ⟨by rw [h1]; trivial, he _ _ ?_⟩
  show raiseD Γ g [.int k, .str w] M fun x M2 => K.ex x ρ M2
  unfold raiseD
  rw [h1]
  have n1 : (["index", "what"] : List Str) ≠ [] := List.cons_ne_nil _ _
  have n2 : ∀ i ∈ [0, 1], ∃ d, ([.int k, .str w] : List D)[i]? = some d ∧ TxtD d := fun i hi => by
    have e : i = 0 ∨ i = 1 := by simpa using hi
    rcases e with rfl | rfl
    · exact ⟨.int k, rfl, hk⟩
    · exact ⟨.str w, rfl, hw⟩
  exact ⟨n1, rfl, n2, h⟩
/-! ### check_cargo -/
/-- what is wrong with a cargo -/
def cargoW (am : Option (List D)) : Option Str := match am with
  | some [x, y] => if btwP x (0, 1) none = false then some "weight" else if ratO y = none then some "moment" else none
  | _ => some "pair"
def sp_check_cargo (C : Addr) : DSp := fun ds M E Q => ∃ d am, ds = [d] ∧ Am M d am ∧ (∀ xs, am = some xs → xs.length < 100 ∧ ∀ x ∈ xs, Cmp M x ∧ Sml 3000 x) ∧
  (match cargoW am with
  | some w => errW C w M E
  | none => ∀ x y, am = some [x, y] → Q (.tup [x, y]) M)
theorem seqP2 (am : Option (List D)) : seqP am (.int 2) (.int 2) = true ↔ ∃ x y, am = some [x, y] := by
  constructor
  · intro h
    cases am with
    | none => cases h
    | some xs =>
      simp only [seqP, whP, Bool.and_eq_true, decide_eq_true_eq] at h
      match xs, h with
      | [], h => simp at h
      | [_], h => simp at h
      | [x, y], _ => exact ⟨x, y, rfl⟩
      | _ :: _ :: _ :: _, h => simp at h; omega
  · rintro ⟨x, y, rfl⟩
    rfl
/-- the module's zero -/
theorem zero_ev {Γ : Gm} {g : Nat} {d : D} (h : Γ.gv g = .val d) {ρ : DEnv} {M : Mm} {E : EK} {Q : QD} (q : Q d M) : evE Γ (.gl g) ρ M E Q := by
  show match Γ.gv g with | .val d => Q d M | _ => False
  rw [h]
  exact q
theorem pure_check_cargo {Γ : Gm} {C : Addr} (h2 : Γ.gv 2 = .val (rt (0, 1))) (h5 : Γ.gv 5 = .fn 1 sp_is_ratio []) (h39 : Γ.gv 39 = .err C ["what"] [0]) (h42 : Γ.gv 42 = .fn 3 sp_is_sequence [.int 0, .non]) (h43 : Γ.gv 43 = .fn 3 sp_is_between [.non]) :
    ∀ ds M E Q, ds.length = 1 → sp_check_cargo C ds M E Q → bodyD Γ 1 m_check_cargo ds M E Q := by
  rintro ds M E Q hl ⟨d, am, rfl, hA, hx, q⟩
  refine seq_call h42 hA (.inr ⟨2, rfl⟩) (.inr ⟨2, rfl⟩) ⟨_, rfl, ?_⟩
  cases c : seqP am (.int 2) (.int 2) with
  | false =>
    have e : cargoW am = some "pair" := by
      unfold cargoW
      split
      · rename_i x y
        have := (seqP2 (some [x, y])).mpr ⟨x, y, rfl⟩
        rw [this] at c; cases c
      · rfl
    rw [e] at q
    exact iteT (raise_w h39 (by decide) q)
  | true =>
    obtain ⟨x, y, rfl⟩ := (seqP2 am).mp c
    obtain ⟨_, hx⟩ := hx _ rfl
    have hx0 := hx x (by simp)
    have hy0 := hx y (by simp)
    have hs := am_seq hA
    refine iteF ?_
    simp only [cargoW] at q
    rcases hA with rfl | ⟨a, rfl, h⟩
    all_goals
      first | refine ⟨x, rfl, ?_⟩ | refine ⟨_, h, x, rfl, ?_⟩
      refine zero_ev (ρ := []) (E := E0) (g := 2) h2 ?_
      refine btw_call h43 hx0.1 hx0.2 sz01 ⟨_, rfl, ?_⟩
      cases c1 : btwP x (0, 1) none with
      | false =>
        rw [c1] at q
        exact iteT (raise_w h39 (by decide) q)
      | true =>
        rw [c1] at q
        refine iteF ?_
        first | refine ⟨y, rfl, ?_⟩ | refine ⟨_, h, y, rfl, ?_⟩
        refine rat_call h5 hy0.1.1 hy0.1.2 ⟨_, rfl, ?_⟩
        rw [ratO_P y]
        cases c2 : ratO y with
        | none =>
          rw [c2] at q
          exact iteT (raise_w h39 (by decide) q)
        | some p =>
          rw [c2] at q
          exact iteF ⟨_, hs, q x y rfl⟩
end LW
namespace LW
open PySem PySem.Spec L2 DL
/-! ### slots made -/
def RowT (M : Mm) (r : D) (am : Option (List D)) : Prop := Am M r am ∧ ∀ xs, am = some xs → xs.length < 100 ∧ ∀ x ∈ xs, Cmp M x ∧ Sml 3000 x
def rowW (am : Option (List D)) : Option Str := match am with
  | some [x, y] => if btwP x (-1000, 1) (some (1000, 1)) = false then some "place" else (match ratO y with | some p => if 0 < p.1 then none else some "weight" | none => some "weight")
  | _ => some "row"
def firstW (k : Int) : List (Option (List D)) → Option (Int × Str)
  | [] => none
  | am :: r => match rowW am with
    | some w => some (k, w)
    | none => firstW (k + 1) r
def mostW (m : D) : Option (Int × Str) := match m with
  | .non => none
  | m => match ratO m with | some p => if 0 < p.1 then none else some (0, "most") | none => some (0, "most")
def slotsW (rs : Option (List (Option (List D)))) (m : D) : Option (Int × Str) := match rs with
  | none => some (0, "many")
  | some rs => if whP (.int rs.length) (.int 1) (.int 6) = false then some (0, "many") else match firstW 0 rs with
    | some x => some x
    | none => mostW m
def b_row : Sms := (.cons (.ifs (.not (.val (.call 42 (.cons (.var 4) (.cons (.int 2) (.cons (.int 2) .nil)))))) (.cons (.raise 40 (.cons (.var 3) (.cons (.str "row") .nil))) .nil) .nil) (.cons (.ifs (.not (.val (.call 43 (.cons (.ix (.var 4) (.int 0)) (.cons (.call 6 (.cons (.neg (.int 1000)) .nil)) (.cons (.call 6 (.cons (.int 1000) .nil)) .nil)))))) (.cons (.raise 40 (.cons (.var 3) (.cons (.str "place") .nil))) .nil) .nil) (.cons (.ifs (.not (.val (.call 46 (.cons (.ix (.var 4) (.int 1)) .nil)))) (.cons (.raise 40 (.cons (.var 3) (.cons (.str "weight") .nil))) .nil) .nil) .nil)))
structure InitG (Γ : Gm) (CR CS CB : Addr) : Prop where
  h6 : Γ.gv 6 = .fn 2 (sp_make_ratio CR) [.int 1]
  h40 : Γ.gv 40 = .err CB ["index", "what"] [0, 1]
  h42 : Γ.gv 42 = .fn 3 sp_is_sequence [.int 0, .non]
  h43 : Γ.gv 43 = .fn 3 sp_is_between [.non]
  h46 : Γ.gv 46 = .fn 1 sp_is_above_zero []
  f1 : Γ.fld CS "rows"
  f2 : Γ.fld CS "most"
theorem make1 {Γ : Gm} {C : Addr} (hM : Γ.gv 6 = .fn 2 (sp_make_ratio C) [.int 1]) {a : Int} {M : Mm} {E : EK} {Q : QD} (q : Q (rt (a, 1)) M) : callD (Γ.gv 6) 1 [.int a] M E Q := by
  rw [hM]
  refine ⟨by decide, by decide, rfl, .int a, .int 1, rfl, ⟨.int, rfl⟩, ⟨.int, rfl⟩, .inr (.inr ⟨a, 1, rfl, rfl, by decide, by decide, ?_⟩)⟩
  rw [lowP_one]
  exact q
theorem szc {a b : Int} (h1 : a.natAbs < 2 ^ 64) (h2 : b.natAbs < 2 ^ 64) (h3 : 0 < b) : Sz 3000 (a, b) :=
  ⟨Nat.lt_of_lt_of_le h1 (Nat.pow_le_pow_right (by decide) (by decide)), Nat.lt_of_lt_of_le h2 (Nat.pow_le_pow_right (by decide) (by decide)), h3⟩
theorem ev_row {Γ : Gm} {CR CS CB : Addr} (g : InitG Γ CR CS CB) {M : Mm} {a b c : Option D} {k : Nat} {r : D} {am : Option (List D)} {K : KE} (hk : k < 1000) (hr : RowT M r am)
    (q : match rowW am with
      | some w => ∀ dd, M dd = none → K.ex ⟨CB, some dd⟩ [a, b, c, some (.int k), some r] (M.put dd (.exd [("index", .int k), ("what", .str w)]))
      | none => K.nx [a, b, c, some (.int k), some r] M) : evSs Γ b_row [a, b, c, some (.int k), some r] M K := by
  have kl : ((k : Nat) : Int).natAbs.log2 < 1920 := Nat.lt_trans (log2_lt (n := 64) (by omega) (by decide)) (by decide)
  obtain ⟨hA, hx⟩ := hr
  refine seq_call g.h42 hA (.inr ⟨2, rfl⟩) (.inr ⟨2, rfl⟩) ⟨_, rfl, ?_⟩
  cases cc : seqP am (.int 2) (.int 2) with
  | false =>
    have e : rowW am = some "row" := by
      unfold rowW
      split
      · rename_i x y
        have := (seqP2 (some [x, y])).mpr ⟨x, y, rfl⟩
        rw [this] at cc; cases cc
      · rfl
    rw [e] at q
    exact iteT (raise_iw g.h40 (by decide) kl (fun E Q h => h) q)
  | true =>
    obtain ⟨x, y, rfl⟩ := (seqP2 am).mp cc
    obtain ⟨_, hx⟩ := hx _ rfl
    have hx0 := hx x (by simp)
    have hy0 := hx y (by simp)
    refine iteF ?_
    simp only [rowW] at q
    rcases hA with rfl | ⟨ad, rfl, h⟩
    all_goals
      first | refine ⟨x, rfl, ?_⟩ | refine ⟨_, h, x, rfl, ?_⟩
      refine make1 g.h6 ?_
      refine make1 g.h6 ?_
      refine btw_call3 g.h43 hx0.1 hx0.2 (szc (by decide) (by decide) (by decide)) (szc (by decide) (by decide) (by decide)) ⟨_, rfl, ?_⟩
      cases c1 : btwP x (-1000, 1) (some (1000, 1)) with
      | false =>
        rw [c1] at q
        exact iteT (raise_iw g.h40 (by decide) kl (fun E Q h => h) q)
      | true =>
        rw [c1] at q
        refine iteF ?_
        first | refine ⟨y, rfl, ?_⟩ | refine ⟨_, h, y, rfl, ?_⟩
        refine abv_call g.h46 hy0.1 hy0.2 ⟨_, rfl, ?_⟩
        cases c2 : ratO y with
        | none =>
          rw [c2] at q
          exact iteT (raise_iw g.h40 (by decide) kl (fun E Q h => h) q)
        | some p =>
          rw [c2] at q
          by_cases c3 : 0 < p.1
          · simp only [c3, if_true, Bool.true_eq_false, if_false] at q
            show if (!decide (0 < p.1)) = true then _ else _
            rw [decide_eq_true c3]
            exact iteF q
          · simp only [c3, if_false, Bool.true_eq_false] at q
            show if (!decide (0 < p.1)) = true then _ else _
            rw [decide_eq_false c3]
            exact iteT (raise_iw g.h40 (by decide) kl (fun E Q h => h) q)
theorem rows_turns {Γ : Gm} {CR CS CB : Addr} (g : InitG Γ CR CS CB) {M : Mm} {G : Mm → Prop} (hG : G M) {a b c : Option D} {K : KE} : ∀ (rs : List (D × Option (List D))) (k : Nat) (x y : Option D), k + rs.length < 1000 → (∀ r ∈ rs, RowT M r.1 r.2) →
    (match firstW k (rs.map (·.2)) with
      | some (i, w) => ∀ ρ dd, M dd = none → K.ex ⟨CB, some dd⟩ ρ (M.put dd (.exd [("index", .int i), ("what", .str w)]))
      | none => ∀ x y, K.nx [a, b, c, x, y] M) → forD G (.tup (.cons (.nm 3) (.cons (.nm 4) .nil))) (evSs Γ b_row) K (enmD k (rs.map (·.1))) [a, b, c, x, y] M
  | [], k, x, y, _, _, q => ⟨hG, q x y⟩
  | r :: rs, k, x, y, hk, hr, q => by
    have hk : k + (rs.length + 1) < 1000 := hk
    refine ⟨hG, ?_⟩
    refine ev_row g (k := k) (r := r.1) (am := r.2) (by omega) (hr r List.mem_cons_self) ?_
    simp only [List.map_cons, firstW] at q
    cases e : rowW r.2 with
    | some w =>
      rw [e] at q
      exact fun dd h => q _ dd h
    | none =>
      rw [e] at q
      exact rows_turns g hG rs (k + 1) _ _ (by omega) (fun r' h => hr r' (List.mem_cons_of_mem _ h)) (by rw [Int.natCast_add]; exact q)
def i_end : Sms := (.cons (.setF (.var 0) "rows" (.bi .tuple (.cons (.lc [4] (.nm 4) (.seq (.var 1)) .none (.bi .tuple (.cons (.var 4) .nil))) .nil))) (.cons (.setF (.var 0) "most" (.var 2)) .nil))
/-- the rows as tuples -/
def rowsD (rs : List (D × Option (List D))) : List D := rs.map fun r => .tup (r.2.getD [])
theorem fld2 (x y : D) : putD "most" y (putD "rows" x []) = [(("rows" : Str), x), (("most" : Str), y)] := by
  show putD "most" y [(("rows" : Str), x)] = _
  unfold putD
  rw [if_neg (by decide +kernel)]
  rfl
theorem ev_iend {Γ : Gm} {CR CS CB : Addr} (g : InitG Γ CR CS CB) {M : Mm} {s : Addr} {d m : D} {rs : List (D × Option (List D))} {x y : Option D} {K : KE} (hs : M s = some (.ins CS [])) (hA : Am M d (some (rs.map (·.1)))) (hl : rs.length ≤ 6)
    (hr : ∀ r ∈ rs, ∃ xs, r.2 = some xs ∧ Am M r.1 (some xs))
    (q : ∀ M', (∀ a o, a ≠ s → M a = some o → M' a = some o) → M' s = some (.ins CS [("rows", .tup (rowsD rs)), ("most", m)]) → K.nx [some (.ref s), some d, some m, x, y] M') : evSs Γ i_end [some (.ref s), some d, some m, x, y] M K := by
  have key : ∀ (G : Mm → Prop), (∀ M', Am M' d (some (rs.map (·.1))) → G M') → ∀ p, M p = none → ∀ Q : Mm → Prop, Q (M.put p (.lst (rowsD rs))) → compL G p (fun d M2 K => tgD (.nm 4) d (wipeD [some (.ref s), some d, some m, x, y] [4]) fun ρ2 => evE Γ (.bi .tuple (.cons (.var 4) .nil)) ρ2 M2 E0 fun x M4 => K (some x) M4)
      (rs.map (·.1)) [] (M.put p (.lst [])) Q := fun G hG p np Q hQ => by
    have f : ∃ f : D → D, ∀ r ∈ rs, f r.1 = .tup (r.2.getD []) := ⟨fun d => match seqD M d with | some xs => .tup xs | none => .non, fun r h => by
      obtain ⟨xs, e1, e2⟩ := hr r h
      show (match seqD M r.1 with | some xs => D.tup xs | none => .non) = _
      rw [am_seq e2, e1]
      rfl⟩
    obtain ⟨f, hf⟩ := f
    have le := put_le (o := .lst ([] : List D)) np
    refine compL_map (M := M) f (fun acc => hG _ (hA.le (put_le np))) (rs.map (·.1)) [] Q (fun e he acc K hK => ?_) (by simp; omega) ?_
    · obtain ⟨r, h, rfl⟩ := List.mem_map.mp he
      obtain ⟨xs, e1, e2⟩ := hr r h
      rw [hf r h, e1] at hK
      exact ⟨xs, am_seq (e2.le (put_le np)), hK⟩
    · have e : (rs.map (·.1)).map f = rowsD rs := by
        rw [List.map_map]
        exact List.map_congr_left fun r h => hf r h
      rw [List.nil_append, e]
      exact hQ
  have fin : ∀ p, M p = none → ∀ M5, M5 = M.put p (.lst (rowsD rs)) → ∃ xs, seqD M5 (.ref p) = some xs ∧ ∃ C fs, M5 s = some (.ins C fs) ∧ Γ.fld C "rows" ∧ fs.length < 50 ∧ ∃ C' fs', (M5.put s (.ins C (putD "rows" (.tup xs) fs))) s = some (.ins C' fs') ∧ Γ.fld C' "most" ∧ fs'.length < 50 ∧
      K.nx [some (.ref s), some d, some m, x, y] ((M5.put s (.ins C (putD "rows" (.tup xs) fs))).put s (.ins C' (putD "most" m fs'))) := fun p np M5 e => by
    subst e
    have hne : s ≠ p := fun z => by rw [z, np] at hs; cases hs
    refine ⟨_, seq_ref Mm.put_same, CS, [], by rw [Mm.put_ne hne]; exact hs, g.f1, by show 0 < 50; decide, CS, _, Mm.put_same, g.f2, by show 1 < 50; decide, ?_⟩
    rw [put_put]
    refine q _ (fun a o ha h => ?_) (by rw [Mm.put_same, fld2])
    have hap : a ≠ p := fun z => by rw [z, np] at h; cases h
    rw [Mm.put_ne ha, Mm.put_ne hap]
    exact h
  rcases hA with rfl | ⟨a, rfl, h⟩
  · refine fun p np => ?_
    exact key (fun _ => True) (fun _ _ => trivial) p np _ (fin p np _ rfl)
  · refine ⟨_, h, fun p np => ?_⟩
    exact key (fun M => M a = some (.lst (rs.map (·.1))) ∨ M a = some (.rol (rs.map (·.1)))) (fun M' h' => by
      rcases h' with h' | ⟨b, e, h'⟩
      · cases h'
      · cases e; exact h') p np _ (fin p np _ rfl)
theorem firstW_none : ∀ {l : List (Option (List D))} {k : Int}, firstW k l = none → ∀ am ∈ l, rowW am = none
  | [], _, _, am, h => by cases h
  | b :: l, k, e, am, h => by
    simp only [firstW] at e
    cases c : rowW b with
    | some w => rw [c] at e; cases e
    | none =>
      rw [c] at e
      rcases List.mem_cons.mp h with rfl | h
      · exact c
      · exact firstW_none e am h
theorem rowW_none {am : Option (List D)} (h : rowW am = none) : ∃ x y, am = some [x, y] := by
  unfold rowW at h
  split at h
  · exact ⟨_, _, rfl⟩
  · cases h
def sp_Slots (CS CB : Addr) : DSp := fun ds M E Q => ∃ s d m, ∃ rs : Option (List (D × Option (List D))), ds = [.ref s, d, m] ∧ M s = some (.ins CS []) ∧ Am M d (rs.map (·.map (·.1))) ∧ (∀ l, rs = some l → l.length < 100 ∧ ∀ r ∈ l, RowT M r.1 r.2) ∧ Cmp M m ∧ Sml 3000 m ∧
  (match slotsW (rs.map (·.map (·.2))) m with
  | some (i, w) => ∀ dd, M dd = none → E ⟨CB, some dd⟩ (M.put dd (.exd [("index", .int i), ("what", .str w)]))
  | none => ∀ M', (∀ a o, a ≠ s → M a = some o → M' a = some o) → M' s = some (.ins CS [("rows", .tup (rowsD (rs.getD []))), ("most", m)]) → Q .non M')
theorem log0 : (0 : Int).natAbs.log2 < 1920 := by decide
def i_most : Sms := .cons (.ifs (.bop .And (.cons (.cmp .IsNot (.var 2) .non) (.cons (.not (.val (.call 46 (.cons (.var 2) .nil)))) .nil))) (.cons (.raise 40 (.cons (.int 0) (.cons (.str "most") .nil))) .nil) .nil) i_end
theorem ev_imost {Γ : Gm} {CR CS CB : Addr} (g : InitG Γ CR CS CB) {M : Mm} {s d m : D} {x y : Option D} {K : KE} (hm : Cmp M m) (hz : Sml 3000 m)
    (q : match mostW m with
      | some (i, w) => ∀ dd, M dd = none → K.ex ⟨CB, some dd⟩ [some s, some d, some m, x, y] (M.put dd (.exd [("index", .int i), ("what", .str w)]))
      | none => evSs Γ i_end [some s, some d, some m, x, y] M K) : evSs Γ i_most [some s, some d, some m, x, y] M K := by
  refine ⟨_, rfl, ?_⟩
  cases e : m.isNon with
  | true =>
    have : m = .non := by cases m <;> first | rfl | cases e
    subst this
    exact q
  | false =>
    refine abv_call g.h46 hm hz ⟨_, rfl, ?_⟩
    have e2 : mostW m = match ratO m with | some p => if 0 < p.1 then (none : Option (Int × Str)) else some (0, "most") | none => some (0, "most") := by
      cases m <;> first | rfl | cases e
    rw [e2] at q
    cases c : ratO m with
    | none =>
      rw [c] at q
      exact iteT (raise_iw g.h40 (by decide) log0 (fun E Q h => h) q)
    | some p =>
      rw [c] at q
      show if (!decide (0 < p.1)) = true then _ else _
      by_cases c3 : 0 < p.1
      · simp only [c3, if_true] at q
        rw [decide_eq_true c3]
        exact iteF q
      · simp only [c3, if_false] at q
        rw [decide_eq_false c3]
        exact iteT (raise_iw g.h40 (by decide) log0 (fun E Q h => h) q)
theorem pure_Slots_init {Γ : Gm} {CR CS CB : Addr} (g : InitG Γ CR CS CB) : ∀ ds M E Q, ds.length = 3 → sp_Slots CS CB ds M E Q → bodyD Γ 5 m_Slots_init ds M E Q := by
  rintro ds M E Q hl ⟨s, d, m, rs, rfl, hs, hA, hr, hm, hz, q⟩
  refine seq_call g.h42 hA (.inr ⟨1, rfl⟩) (.inr ⟨6, rfl⟩) ⟨_, rfl, ?_⟩
  cases rs with
  | none => exact iteT (raise_iw g.h40 (by decide) log0 (fun E Q h => h) q)
  | some l =>
    have e1 : seqP ((some l).map (·.map (·.1))) (.int 1) (.int 6) = whP (.int l.length) (.int 1) (.int 6) := by simp [seqP]
    have e2 : slotsW ((some l).map (·.map (·.2))) m = if whP (.int l.length) (.int 1) (.int 6) = false then (some (0, "many") : Option (Int × Str)) else match firstW 0 (l.map (·.2)) with | some x => some x | none => mostW m := by simp [slotsW]
    rw [e1]
    rw [e2] at q
    obtain ⟨hl, hr⟩ := hr l rfl
    cases c : whP (.int l.length) (.int 1) (.int 6) with
    | false =>
      rw [c] at q
      exact iteT (raise_iw g.h40 (by decide) log0 (fun E Q h => h) q)
    | true =>
      rw [c] at q
      have q : match (match firstW 0 (l.map (·.2)) with | some x => some x | none => mostW m) with
        | some (i, w) => ∀ dd, M dd = none → E ⟨CB, some dd⟩ (M.put dd (.exd [("index", .int i), ("what", .str w)]))
        | none => ∀ M', (∀ a o, a ≠ s → M a = some o → M' a = some o) → M' s = some (.ins CS [("rows", .tup (rowsD l)), ("most", m)]) → Q .non M' := q
      have l6 : l.length ≤ 6 := by
        simp only [whP, Bool.and_eq_true, decide_eq_true_eq] at c
        omega
      have rest : ∀ x y, firstW 0 (l.map (·.2)) = none → evSs Γ i_most [some (.ref s), some d, some m, x, y] M { nx := fun _ M' => Q .non M', rt := Q, ex := fun x _ M' => E x M' } := fun x y hn => by
        refine ev_imost g hm hz ?_
        rw [hn] at q
        cases cm : mostW m with
        | some iw => rw [cm] at q; exact q
        | none =>
          rw [cm] at q
          refine ev_iend g hs hA l6 (fun r h => ?_) q
          obtain ⟨x, y, e⟩ := rowW_none (firstW_none hn r.2 (List.mem_map.mpr ⟨r, h, rfl⟩))
          exact ⟨_, e, by rw [← e]; exact (hr r h).1⟩
      refine iteF ?_
      have loop : ∀ (G : Mm → Prop), G M → forD G (.tup (.cons (.nm 3) (.cons (.nm 4) .nil))) (evSs Γ b_row) { nx := fun ρ M1 => evSs Γ i_most ρ M1 { nx := fun _ M' => Q .non M', rt := Q, ex := fun x _ M' => E x M' }, rt := Q, ex := fun x _ M' => E x M' } (enmD 0 (l.map (·.1))) [some (.ref s), some d, some m, none, none] M := fun G hG => by
        refine rows_turns g hG l 0 none none (by omega) hr ?_
        show match firstW 0 (l.map (·.2)) with | some (i, w) => _ | none => _
        cases cf : firstW 0 (l.map (·.2)) with
        | some iw => rw [cf] at q; exact fun ρ dd h => q dd h
        | none => exact fun x y => rest x y cf
      rcases hA with e | ⟨a, e, h⟩
      · subst e; exact loop (fun _ => True) trivial
      · subst e; exact ⟨_, h, loop (fun M => M a = some (.lst (l.map (·.1))) ∨ M a = some (.rol (l.map (·.1)))) h⟩
theorem slots_make {Γ : Gm} {CS CB : Addr} (hΓ : Γ.gv 45 = .cla CS (some (2, sp_Slots CS CB, [.non]))) {x y : D} {M : Mm} {E : EK} {Q : QD} (h : ∀ p, M p = none → sp_Slots CS CB [.ref p, x, y] (M.put p (.ins CS [])) E fun d M' => d = .non ∧ Q (.ref p) M') : mkD (Γ.gv 45) 2 [x, y] M E Q := by
  rw [hΓ]
  exact ⟨Nat.le_refl _, by decide, rfl, h⟩
/-! ### slots seen -/
def SlotsAt (CS : Addr) (M : Mm) (s : Addr) (rows : List D) (m : D) : Prop := M s = some (.ins CS [("rows", .tup rows), ("most", m)])
def sp_Slots_len (CS : Addr) : DSp := fun ds M _ Q => ∃ s rows m, ds = [.ref s] ∧ SlotsAt CS M s rows m ∧ Q (.int rows.length) M
theorem fld_rows {Γ : Gm} {CS : Addr} (f1 : Γ.fld CS "rows") {M : Mm} {s : Addr} {rows : List D} {m : D} {i : Nat} {ρ : DEnv} (hρ : ρ[i]? = some (some (.ref s))) (h : SlotsAt CS M s rows m) {E : EK} {Q : QD} (q : Q (.tup rows) M) : evE Γ (.fld (.var i) "rows") ρ M E Q := by
  show match ρ[i]? with | some (some d) => _ | _ => False
  rw [hρ]
  exact ⟨CS, _, _, h, f1, rfl, q⟩
theorem fld_most {Γ : Gm} {CS : Addr} (f1 : Γ.fld CS "most") {M : Mm} {s : Addr} {rows : List D} {m : D} {i : Nat} {ρ : DEnv} (hρ : ρ[i]? = some (some (.ref s))) (h : SlotsAt CS M s rows m) {E : EK} {Q : QD} (q : Q m M) : evE Γ (.fld (.var i) "most") ρ M E Q := by
  show match ρ[i]? with | some (some d) => _ | _ => False
  rw [hρ]
  exact ⟨CS, _, _, h, f1, rfl, q⟩
theorem pure_Slots_len {Γ : Gm} {CS : Addr} (f1 : Γ.fld CS "rows") : ∀ ds M E Q, ds.length = 1 → sp_Slots_len CS ds M E Q → bodyD Γ 1 m_Slots_len ds M E Q := by
  rintro ds M E Q hl ⟨s, rows, m, rfl, h, q⟩
  exact ⟨CS, _, _, h, f1, rfl, rows, rfl, q⟩
theorem lno_var {Γ : Gm} {g : Nat} {C : Addr} {sp : DSp} (hC : (Γ.gv g).insOf = some C) (hm : Γ.mt g "__len__" = some (0, sp, [])) {ρ : DEnv} {i : Nat} {s : Addr} {M : Mm} {E : EK} {Q : QD} (hρ : ρ[i]? = some (some (.ref s))) (hI : InsD M C (.ref s))
    (h : sp [.ref s] M (fun _ _ => False) fun d M2 => ∃ k : Int, d = .int k ∧ 0 ≤ k ∧ k < 2 ^ 63 ∧ Q (.int k) M2) : evE Γ (.lno g (.var i)) ρ M E Q := by
  show match (Γ.gv g).insOf with | some C => _ | none => False
  rw [hC]
  refine ⟨by unfold mtN; rw [hm]; exact Nat.zero_le _, ?_⟩
  show match ρ[i]? with | some (some d) => _ | _ => False
  rw [hρ]
  refine ⟨hI, ?_⟩
  unfold mcD
  rw [hm]
  exact ⟨Nat.le_refl _, Nat.le_refl _, rfl, h⟩
end LW
namespace LW
open PySem PySem.Spec L2 DL
/-! ### cargoes of amounts -/
abbrev RR := (Int × Int) × (Int × Int)
def rowD (r : RR) : D := .tup [rt r.1, rt r.2]
def sumL (ps : List (Int × Int)) : Int × Int := ps.foldl sumP (0, 1)
theorem red01 : Red ((0, 1) : Int × Int) := ⟨by decide, rfl⟩
theorem sumL_red {ps : List (Int × Int)} (h : ∀ p ∈ ps, Red p) : Red (sumL ps) := foldl_sum_red ps _ red01 fun p hp => (h p hp).1
theorem val01 : val (0, 1) = 0 := rfl
theorem sumL_val {ps : List (Int × Int)} (h : ∀ p ∈ ps, Red p) : val (sumL ps) = rsum ps := by
  unfold sumL
  rw [foldl_val ps _ (by decide) (fun p hp => (h p hp).1), val01, Rat.zero_add]
theorem sumL_of {ps : List (Int × Int)} {r : Int × Int} (h : ∀ p ∈ ps, Red p) (hr : Red r) (e : val r = rsum ps) : r = sumL ps := red_inj hr (sumL_red h) (by rw [e, sumL_val h])
theorem mulP_sz {p q : Int × Int} {n m : Nat} (hp : Sz n p) (hq : Sz m q) : Sz (n + m) (mulP p q) := by
  have hd := den_mul hp.2.2 hq.2.2
  obtain ⟨l1, l2⟩ := lowP_le (a := p.1 * q.1) hd
  have a1 := lt_mul hp.1 hq.1
  have a2 := lt_mul hp.2.1 hq.2.1
  exact ⟨Nat.lt_of_le_of_lt l1 a1, Nat.lt_of_le_of_lt l2 a2, (mulP_red hp.2.2 hq.2.2).1⟩
def ratsO : List D → Option (List (Int × Int))
  | [] => some []
  | x :: xs => match ratO x, ratsO xs with
    | some p, some ps => some (p :: ps)
    | _, _ => none
theorem ratsO_cons (x : D) (xs : List D) : ratsO (x :: xs) = (match ratO x, ratsO xs with
    | some p, some ps => some (p :: ps)
    | _, _ => none) := rfl
theorem ratsO_all : ∀ xs : List D, (xs.map ratP).all id = (ratsO xs).isSome
  | [] => rfl
  | x :: xs => by
    rw [List.map_cons, List.all_cons, ratsO_all xs, ratsO_cons]
    show (ratP x && _) = _
    rw [ratO_P]
    cases ratO x <;> cases ratsO xs <;> rfl
theorem ratsO_some : ∀ {xs : List D} {ps : List (Int × Int)}, ratsO xs = some ps → xs = ps.map rt ∧ (∀ p ∈ ps, Red p) ∧ ∀ n, (∀ x ∈ xs, Sml n x) → ∀ p ∈ ps, Sz n p
  | [], ps, h => by cases h; exact ⟨rfl, fun p hp => (by cases hp), fun n _ p hp => (by cases hp)⟩
  | x :: xs, ps, h => by
    unfold ratsO at h
    split at h
    · rename_i p qs h1 h2
      cases h
      obtain ⟨e, r⟩ := ratO_some h1
      obtain ⟨e2, r2, z2⟩ := ratsO_some h2
      refine ⟨by rw [List.map_cons, ← e2, e], fun q hq => ?_, fun n hs q hq => ?_⟩
      · rcases List.mem_cons.mp hq with rfl | hq
        · exact r
        · exact r2 q hq
      · rcases List.mem_cons.mp hq with rfl | hq
        · exact hs x List.mem_cons_self _ h1
        · exact z2 n (fun y hy => hs y (List.mem_cons_of_mem _ hy)) q hq
    · cases h
theorem ratsO_rt : ∀ {ps : List (Int × Int)}, (∀ p ∈ ps, Red p) → ratsO (ps.map rt) = some ps
  | [], _ => rfl
  | p :: ps, h => by
    rw [List.map_cons, ratsO_cons, ratO_red (h p List.mem_cons_self), ratsO_rt fun q hq => h q (List.mem_cons_of_mem _ hq)]
def moms (ps : List (Int × Int)) (rows : List RR) : List (Int × Int) := List.zipWith (fun p r => mulP p r.1) ps rows
def momF (d : D) : D := match d with
  | .tup [.tup [.int a, .int b], .tup [.tup [.int c, .int e], _]] => rt (mulP (a, b) (c, e))
  | _ => .non
theorem zip_moms : ∀ (ps : List (Int × Int)) (rows : List RR), (zipD (ps.map rt) (rows.map rowD)).map momF = (moms ps rows).map rt
  | [], _ => by simp [zipD, moms]
  | _ :: _, [] => by simp [zipD, moms]
  | p :: ps, r :: rows => by
    have := zip_moms ps rows
    simp only [List.map_cons, zipD, moms, List.zipWith_cons_cons] at this ⊢
    rw [this]
    rfl
theorem zip_mem : ∀ {ps : List (Int × Int)} {rows : List RR} {d : D}, d ∈ zipD (ps.map rt) (rows.map rowD) → ∃ p r, p ∈ ps ∧ r ∈ rows ∧ d = .tup [rt p, rowD r]
  | [], _, d, h => by simp [zipD] at h
  | _ :: _, [], d, h => by simp [zipD] at h
  | p :: ps, r :: rows, d, h => by
    simp only [List.map_cons, zipD, List.mem_cons] at h
    rcases h with rfl | h
    · exact ⟨p, r, List.mem_cons_self, List.mem_cons_self, rfl⟩
    · obtain ⟨p', r', h1, h2, h3⟩ := zip_mem h
      exact ⟨p', r', List.mem_cons_of_mem _ h1, List.mem_cons_of_mem _ h2, h3⟩
theorem moms_mem {ps : List (Int × Int)} {rows : List RR} {q : Int × Int} (h : q ∈ moms ps rows) : ∃ p r, p ∈ ps ∧ r ∈ rows ∧ q = mulP p r.1 := by
  induction ps generalizing rows with
  | nil => simp [moms] at h
  | cons p ps ih =>
    cases rows with
    | nil => simp [moms] at h
    | cons r rows =>
      simp only [moms, List.zipWith_cons_cons, List.mem_cons] at h
      rcases h with rfl | h
      · exact ⟨p, r, List.mem_cons_self, List.mem_cons_self, rfl⟩
      · obtain ⟨p', r', h1, h2, h3⟩ := ih h
        exact ⟨p', r', List.mem_cons_of_mem _ h1, List.mem_cons_of_mem _ h2, h3⟩
/-- rows of slots -/
def RowsOk (rows : List RR) : Prop := rows.length ≤ 6 ∧ ∀ r ∈ rows, Red r.1 ∧ Sz 30 r.1 ∧ Red r.2 ∧ Sz 30 r.2
def Item (M : Mm) (x : D) : Prop := Cmp M x ∧ Sml 460 x
theorem Item.le {M M' : Mm} {x : D} (l : M.le M') (h : Item M x) : Item M' x := ⟨h.1.le l, h.2⟩
def Amt (M : Mm) (d : D) (am : Option (List D)) : Prop := Am M d am ∧ ∀ xs, am = some xs → xs.length < 100 ∧ ∀ x ∈ xs, Item M x
theorem Amt.le {M M' : Mm} {d : D} {am : Option (List D)} (l : M.le M') (h : Amt M d am) : Amt M' d am := ⟨h.1.le l, fun xs e => ⟨(h.2 xs e).1, fun x hx => ((h.2 xs e).2 x hx).le l⟩⟩
def byW (n : Nat) (am : Option (List D)) : Option Str := match am with
  | none => some "length"
  | some xs => if xs.length ≠ n then some "length" else match ratsO xs with | none => some "amount" | some _ => none
structure ByG (Γ : Gm) (CS CA : Addr) : Prop where
  h2 : Γ.gv 2 = .val (rt (0, 1))
  h5 : Γ.gv 5 = .fn 1 sp_is_ratio []
  h10 : Γ.gv 10 = .fn 2 sp_times []
  h14 : Γ.gv 14 = .fn 1 sp_sum_of []
  h41 : Γ.gv 41 = .err CA ["what"] [0]
  h42 : Γ.gv 42 = .fn 3 sp_is_sequence [.int 0, .non]
  h45 : (Γ.gv 45).insOf = some CS
  hl : Γ.mt 45 "__len__" = some (0, sp_Slots_len CS, [])
  f1 : Γ.fld CS "rows"
  f2 : Γ.fld CS "most"
theorem len_ev {Γ : Gm} {CS CA : Addr} (g : ByG Γ CS CA) {ρ : DEnv} {i : Nat} {s : Addr} {rows : List D} {m : D} {M : Mm} {E : EK} {Q : QD} (hρ : ρ[i]? = some (some (.ref s))) (h : SlotsAt CS M s rows m) (hl : rows.length < 1000) (q : Q (.int rows.length) M) : evE Γ (.lno 45 (.var i)) ρ M E Q :=
  lno_var g.h45 g.hl hρ ⟨s, _, rfl, h⟩ ⟨s, rows, m, rfl, h, rows.length, rfl, by omega, by omega, q⟩
theorem mt_len {Γ : Gm} {CS CA : Addr} (g : ByG Γ CS CA) : mtN Γ 45 "__len__" 0 := by
  unfold mtN
  rw [g.hl]
  exact Nat.zero_le _
theorem mc_len {Γ : Gm} {CS CA : Addr} (g : ByG Γ CS CA) {s : Addr} {rows : List D} {m : D} {M : Mm} {E : EK} {Q : Int → Mm → Prop} (h : SlotsAt CS M s rows m) (hl : rows.length < 1000) (q : Q rows.length M) : mcD Γ 45 "__len__" (.ref s) 0 [] M E fun d M2 => ∃ i : Int, d = .int i ∧ 0 ≤ i ∧ i < 2 ^ 63 ∧ Q i M2 := by
  unfold mcD
  rw [g.hl]
  exact ⟨Nat.le_refl _, Nat.le_refl _, rfl, s, rows, m, rfl, h, rows.length, rfl, by omega, by omega, q⟩
theorem SlotsAt.le {CS : Addr} {M M' : Mm} {s : Addr} {rows : List D} {m : D} (l : M.le M') (h : SlotsAt CS M s rows m) : SlotsAt CS M' s rows m := l _ _ h
theorem call1' {Γ : Gm} {g : Nat} {sp : DSp} {d : D} {M : Mm} {E : EK} {Q : QD} (hΓ : Γ.gv g = .fn 1 sp []) (h : sp [d] M E Q) : callD (Γ.gv g) 1 [d] M E Q := by
  rw [hΓ]
  exact ⟨Nat.le_refl _, Nat.le_refl _, rfl, h⟩
theorem call2' {Γ : Gm} {g : Nat} {sp : DSp} {d e : D} {M : Mm} {E : EK} {Q : QD} (hΓ : Γ.gv g = .fn 2 sp []) (h : sp [d, e] M E Q) : callD (Γ.gv g) 2 [d, e] M E Q := by
  rw [hΓ]
  exact ⟨Nat.le_refl _, Nat.le_refl _, rfl, h⟩
def b_second : Sms := (.cons (.setLc 2 [3, 4] (.tup (.cons (.nm 3) (.cons (.nm 4) .nil))) (.zip (.var 1) (.fld (.var 0) "rows")) .none (.call 10 (.cons (.var 3) (.cons (.ix (.var 4) (.int 0)) .nil)))) (.cons (.ret (.tup (.cons (.call 14 (.cons (.var 1) .nil)) (.cons (.call 14 (.cons (.var 2) .nil)) .nil)))) .nil))
def sp_cargo_by (CS CA : Addr) : DSp := fun ds M E Q => ∃ s d am rows m, ds = [.ref s, d] ∧ SlotsAt CS M s (rows.map rowD) m ∧ RowsOk rows ∧ Amt M d am ∧
  (match byW rows.length am with
  | some w => ∀ M', M.le M' → errW CA w M' E
  | none => ∀ xs ps M', am = some xs → ratsO xs = some ps → M.le M' → Q (.tup [rt (sumL ps), rt (sumL (moms ps rows))]) M')
theorem seqP_len (xs : List D) (n : Nat) : seqP (some xs) (.int n) (.int n) = decide (xs.length = n) := by
  simp only [seqP, whP]
  by_cases h : xs.length = n
  · subst h; simp
  · rw [decide_eq_false h]
    by_cases h2 : n ≤ xs.length
    · have : ¬ (xs.length ≤ n) := by omega
      simp [this]
    · have : ¬ ((n : Int) ≤ (xs.length : Int)) := by omega
      simp [this]
theorem blsD_map : ∀ bs : List Bool, blsD (bs.map D.bl) = some bs
  | [] => rfl
  | b :: bs => by rw [List.map_cons]; unfold blsD; rw [blsD_map bs]; rfl
theorem sum_call {Γ : Gm} (hΓ : Γ.gv 14 = .fn 1 sp_sum_of []) {d : D} {ps : List (Int × Int)} {M : Mm} {E : EK} {Q : QD} {k : Nat} (hk : (k + 1) * 6 ≤ 3000) (hr : Row M d ps) (h : ∀ p ∈ ps, Red p ∧ Sz k p) (hl : ps.length ≤ 6) (q : ∀ M', M.le M' → Q (rt (sumL ps)) M') : callD (Γ.gv 14) 1 [d] M E Q := by
  refine call1' hΓ ⟨d, ps, (k + 1) * ps.length, rfl, hr, Wt.of ps h, Nat.le_trans (Nat.mul_le_mul_left _ hl) hk, by omega, fun r M' l hr e => ?_⟩
  rw [sumL_of (fun p hp => (h p hp).1) hr e]
  exact q M' l
theorem pure_cargo_by {Γ : Gm} {CS CA : Addr} (g : ByG Γ CS CA) : ∀ ds M E Q, ds.length = 2 → sp_cargo_by CS CA ds M E Q → bodyD Γ 5 m_cargo_by ds M E Q := by
  rintro ds M E Q hl ⟨s, d, am, rows, m, rfl, hS, hR, hA, q⟩
  have r6 := hR.1
  have rl : (rows.map rowD).length < 1000 := by simp; omega
  show match (Γ.gv 45).insOf with | some C => _ | none => False
  rw [g.h45]
  refine ⟨mt_len g, ⟨_, _, rfl, hS⟩, mc_len g hS rl ?_⟩
  show match (Γ.gv 45).insOf with | some C => _ | none => False
  rw [g.h45]
  refine ⟨mt_len g, ⟨_, _, rfl, hS⟩, mc_len g hS rl ?_⟩
  refine seq_call g.h42 hA.1 (.inr ⟨_, rfl⟩) (.inr ⟨_, rfl⟩) ⟨_, rfl, ?_⟩
  rw [List.length_map]
  cases am with
  | none => exact iteT (raise_w g.h41 (by decide) (q M (Mm.le_refl M)))
  | some xs =>
    rw [seqP_len]
    obtain ⟨hl, hx⟩ := hA.2 xs rfl
    by_cases c : xs.length = rows.length
    case neg =>
      rw [decide_eq_false c]
      simp only [byW, c, ne_eq, not_false_eq_true, if_true] at q
      exact iteT (raise_w g.h41 (by decide) (q M (Mm.le_refl M)))
    case pos =>
      rw [decide_eq_true c]
      simp only [byW, c, ne_eq, not_true_eq_false, if_false] at q
      refine iteF ?_
      have second : ∀ M1, M.le M1 → ratsO xs ≠ none → evSs Γ b_second [some (.ref s), some d, none, none, none] M1 { nx := fun _ M' => Q .non M', rt := Q, ex := fun x _ M' => E x M' } := fun M1 l1 hn => by
        cases e : ratsO xs with
        | none => exact absurd e hn
        | some ps =>
          rw [e] at q
          obtain ⟨rfl, red, szs⟩ := ratsO_some e
          have sz := szs 460 fun x hx' => (hx x hx').2
          have hA1 := hA.1.le l1
          have hS1 := hS.le l1
          rw [List.length_map] at c
          have core : ∀ (G : Mm → Prop), (∀ M', Am M' d (some (ps.map rt)) → G M') → ∀ p, M1 p = none → ∀ T : Mm → Prop, T (M1.put p (.lst ((moms ps rows).map rt))) → compL (fun M => G M ∧ True) p (fun dd M2 K => tgD (.tup (.cons (.nm 3) (.cons (.nm 4) .nil))) dd (wipeD [some (.ref s), some d, none, none, none] [3, 4]) fun ρ2 => evE Γ (.call 10 (.cons (.var 3) (.cons (.ix (.var 4) (.int 0)) .nil))) ρ2 M2 E0 fun x M4 => K (some x) M4)
              (zipD (ps.map rt) (rows.map rowD)) [] (M1.put p (.lst [])) T := fun G hG p np T hT => by
            refine compL_map (M := M1) momF (fun acc => ⟨hG _ (hA1.le (put_le np)), trivial⟩) _ [] T (fun e he acc K hK => ?_) (by simp [zipD_len]; omega) ?_
            · obtain ⟨p1, r1, h1, h2, rfl⟩ := zip_mem he
              obtain ⟨a1, a2, a3, a4⟩ := hR.2 r1 h2
              refine ⟨rt r1.1, rfl, ?_⟩
              exact call2' g.h10 ⟨p1, r1.1, rfl, (sz p1 h1).mono (by decide), a2.mono (by decide), hK⟩
            · rw [List.nil_append, zip_moms]; exact hT
          have red2 : ∀ p ∈ moms ps rows, Red p ∧ Sz 490 p := fun p hp => by
            obtain ⟨p1, r1, h1, h2, rfl⟩ := moms_mem hp
            obtain ⟨a1, a2, a3, a4⟩ := hR.2 r1 h2
            exact ⟨mulP_red (red p1 h1).1 a1.1, mulP_sz (sz p1 h1) a2⟩
          have ml : (moms ps rows).length ≤ 6 := by simp [moms]; omega
          have fin : ∀ p, M1 p = none → evSs Γ (.cons (.ret (.tup (.cons (.call 14 (.cons (.var 1) .nil)) (.cons (.call 14 (.cons (.var 2) .nil)) .nil)))) .nil) [some (.ref s), some d, some (.ref p), none, none] (M1.put p (.lst ((moms ps rows).map rt))) { nx := fun _ M' => Q .non M', rt := Q, ex := fun x _ M' => E x M' } := fun p np => by
            have l2 := put_le (o := .lst ((moms ps rows).map rt)) np
            have hA2 := hA1.le l2
            have row : Row (M1.put p (.lst ((moms ps rows).map rt))) d ps := by
              rcases hA2 with h | ⟨a, h1, h2⟩
              · exact .inl h
              · exact .inr ⟨a, h1, h2⟩
            refine sum_call g.h14 (k := 460) (by decide) row (fun p hp => ⟨red p hp, sz p hp⟩) (by omega) fun M2 l3 => ?_
            refine sum_call g.h14 (k := 490) (by decide) (.inr ⟨p, rfl, .inl (l3 _ _ Mm.put_same)⟩) red2 ml fun M3 l4 => ?_
            exact ⟨by rw [sizeLine_eq]; show 2 ≤ _; decide, q _ ps M3 rfl e (Mm.le_trans l1 (Mm.le_trans l2 (Mm.le_trans l3 l4)))⟩
          rcases hA1 with e1 | ⟨a, e1, h⟩
          · subst e1
            refine ⟨CS, _, _, hS1, g.f1, rfl, fun p np => ?_⟩
            exact core (fun _ => True) (fun _ _ => trivial) p np _ (fin p np)
          · subst e1
            refine ⟨CS, _, _, hS1, g.f1, rfl, _, h, fun p np => ?_⟩
            exact core _ (fun M' h' => by
              rcases h' with h' | ⟨b, e, h'⟩
              · cases h'
              · cases e; exact h') p np _ (fin p np)
      have key : ∀ G : Mm → Prop, (∀ M', Am M' d (some xs) → G M') → ∀ p, M p = none → ∀ T : Mm → Prop, T (M.put p (.lst (xs.map fun x => .bl (ratP x)))) → compL G p (fun dd M2 K => tgD (.nm 3) dd (wipeD [some (.ref s), some d, none, none, none] [3]) fun ρ2 => evE Γ (.call 5 (.cons (.var 3) .nil)) ρ2 M2 E0 fun x M4 => K (some x) M4) xs [] (M.put p (.lst [])) T := fun G hG p np T hT => by
        refine compL_map (M := M) (fun x => .bl (ratP x)) (fun acc => hG _ (hA.1.le (put_le np))) xs [] T (fun e he acc K hK => ?_) (by simp; omega) hT
        have hc := (hx e he).1.le (put_le (o := .lst acc) np)
        exact rat_call g.h5 hc.1 hc.2 hK
      have aft : ∀ p, M p = none → biD .all [.ref p] (M.put p (.lst (xs.map fun x => .bl (ratP x)))) fun d0 M2 => ∃ k, truD M2 d0 = some k ∧ if (!k) = true then evSs Γ (.cons (.raise 41 (.cons (.str "amount") .nil)) .nil) [some (.ref s), some d, none, none, none] M2 { nx := fun ρ1 M1 => evSs Γ b_second ρ1 M1 { nx := fun _ M' => Q .non M', rt := Q, ex := fun x _ M' => E x M' }, rt := Q, ex := fun x _ M' => E x M' } else evSs Γ b_second [some (.ref s), some d, none, none, none] M2 { nx := fun _ M' => Q .non M', rt := Q, ex := fun x _ M' => E x M' } := fun p np => by
        have l := put_le (o := .lst (xs.map fun x => .bl (ratP x))) np
        refine ⟨_, xs.map ratP, seq_ref Mm.put_same, rfl, by rw [← blsD_map, List.map_map]; rfl, _, rfl, ?_⟩
        rw [ratsO_all]
        cases e : ratsO xs with
        | none =>
          rw [e] at q
          exact iteT (raise_w g.h41 (by decide) (q _ l))
        | some ps => exact iteF (second _ l (by rw [e]; exact fun z => by cases z))
      rcases hA.1 with e1 | ⟨a, e1, h⟩
      · subst e1
        exact fun p np => key (fun _ => True) (fun _ _ => trivial) p np _ (aft p np)
      · subst e1
        exact ⟨_, h, fun p np => key _ (fun M' h' => by
          rcases h' with h' | ⟨b, e, h'⟩
          · cases h'
          · cases e; exact h') p np _ (aft p np)⟩
end LW
namespace LW
open PySem PySem.Spec L2 DL
/-! ### stowage_fault -/
def resD : Option Str → D
  | none => .non
  | some w => .str w
def firstF : List D → List RR → Option Str
  | x :: xs, r :: rs => match ratO x with
    | none => some "amount"
    | some p => if p.1 < 0 then some "amount" else if 0 < cmpP p r.2 then some "slot" else firstF xs rs
  | _, _ => none
def overM (most : Option (Int × Int)) (p : Int × Int) : Bool := match most with
  | some q => decide (0 < cmpP p q)
  | none => false
def endF (rows : List RR) (most : Option (Int × Int)) (ps : List (Int × Int)) (w m : Int × Int) : Option Str :=
  if overM most (sumL ps) = true then some "most" else if sumL ps = w then (if sumL (moms ps rows) = m then none else some "moment") else some "weight"
def faultS (rows : List RR) (most : Option (Int × Int)) (am : Option (List D)) (w m : Int × Int) : Option Str := match am with
  | none => some "length"
  | some xs => if xs.length ≠ rows.length then some "length" else match firstF xs rows with
    | some w => some w
    | none => match ratsO xs with
      | none => none
      | some ps => endF rows most ps w m
theorem firstF_none : ∀ {xs : List D} {rows : List RR}, xs.length = rows.length → firstF xs rows = none → ∃ ps, ratsO xs = some ps ∧ ∀ p ∈ ps, 0 ≤ p.1
  | [], _, _, _ => ⟨[], rfl, fun p h => by cases h⟩
  | x :: xs, [], h, _ => by cases h
  | x :: xs, r :: rs, h, e => by
    simp only [firstF] at e
    cases c : ratO x with
    | none => rw [c] at e; cases e
    | some p =>
      rw [c] at e
      by_cases c1 : p.1 < 0
      · simp only [c1, if_true] at e; cases e
      · by_cases c2 : 0 < cmpP p r.2
        · simp only [c1, c2, if_true, if_false] at e; cases e
        · simp only [c1, c2, if_false] at e
          obtain ⟨ps, e1, e2⟩ := firstF_none (by simpa using h) e
          refine ⟨p :: ps, by rw [ratsO_cons, c, e1], fun q hq => ?_⟩
          rcases List.mem_cons.mp hq with rfl | hq
          · omega
          · exact e2 q hq
def b_fault : Sms := (.cons (.ifs (.not (.val (.call 43 (.cons (.var 5) (.cons (.gl 2) .nil))))) (.cons (.ret (.str "amount")) .nil) .nil) (.cons (.ifs (.cmp .Gt (.call 13 (.cons (.var 5) (.cons (.ix (.var 6) (.int 1)) .nil))) (.int 0)) (.cons (.ret (.str "slot")) .nil) .nil) .nil))
def e_fault : Sms := (.cons (.setT (.tup (.cons (.nm 7) (.cons (.nm 8) .nil))) (.call 47 (.cons (.var 0) (.cons (.var 1) .nil)))) (.cons (.ifs (.bop .And (.cons (.cmp .IsNot (.fld (.var 0) "most") .non) (.cons (.cmp .Gt (.call 13 (.cons (.var 7) (.cons (.fld (.var 0) "most") .nil))) (.int 0)) .nil))) (.cons (.ret (.str "most")) .nil) .nil) (.cons (.ifs (.cmp .NotEq (.var 7) (.var 3)) (.cons (.ret (.str "weight")) .nil) .nil) (.cons (.ret (.ite (.cmp .Eq (.var 8) (.var 4)) .non (.str "moment"))) .nil))))
structure FltG (Γ : Gm) (CS CA CC : Addr) : Prop extends ByG Γ CS CA where
  h13 : Γ.gv 13 = .fn 2 sp_compare []
  h43 : Γ.gv 43 = .fn 3 sp_is_between [.non]
  h44 : Γ.gv 44 = .fn 1 (sp_check_cargo CC) []
  h47 : Γ.gv 47 = .fn 2 (sp_cargo_by CS CA) []
theorem btw0 {x : D} : btwP x (0, 1) none = (match ratO x with | none => false | some p => !decide (p.1 < 0)) := by
  unfold btwP
  cases ratO x with
  | none => rfl
  | some p =>
    show (!decide (cmpP p (0, 1) < 0) && true) = _
    rw [Bool.and_true]
    have : decide (cmpP p (0, 1) < 0) = decide (p.1 < 0) := by rw [decide_eq_decide]; exact cmp_ge0 p
    rw [this]
theorem fault_turns {Γ : Gm} {CS CA CC : Addr} (g : FltG Γ CS CA CC) {M : Mm} {G : Mm → Prop} (hG : G M) {a b c w m : Option D} {K : KE} : ∀ (xs : List D) (rows : List RR) (x y : Option D), (∀ x ∈ xs, Item M x) → (∀ r ∈ rows, Red r.1 ∧ Sz 30 r.1 ∧ Red r.2 ∧ Sz 30 r.2) →
    (match firstF xs rows with
      | some v => K.rt (.str v) M
      | none => ∀ x y, K.nx [a, b, c, w, m, x, y, none, none] M) → forD G (.tup (.cons (.nm 5) (.cons (.nm 6) .nil))) (evSs Γ b_fault) K (zipD xs (rows.map rowD)) [a, b, c, w, m, x, y, none, none] M
  | [], rows, x, y, _, _, q => by
    have e : zipD [] (rows.map rowD) = [] := by simp [zipD]
    rw [e]
    exact ⟨hG, q x y⟩
  | z :: xs, [], x, y, _, _, q => ⟨hG, q x y⟩
  | z :: xs, r :: rows, x, y, hx, hr, q => by
    obtain ⟨hc, hs⟩ := hx z List.mem_cons_self
    obtain ⟨r1, r2, r3, r4⟩ := hr r List.mem_cons_self
    refine ⟨hG, ?_⟩
    refine zero_ev (ρ := []) (E := E0) (g := 2) g.h2 ?_
    refine btw_call g.h43 hc (hs.mono (by decide)) sz01 ⟨_, rfl, ?_⟩
    rw [btw0]
    simp only [firstF] at q
    cases e : ratO z with
    | none =>
      rw [e] at q
      exact iteT q
    | some p =>
      rw [e] at q
      obtain ⟨rfl, rp⟩ := ratO_some e
      show if (!!decide (p.1 < 0)) = true then _ else _
      rw [Bool.not_not]
      refine iteD (fun c1 => ?_) (fun c1 => ?_)
      · simp only [c1, if_true] at q
        exact q
      · simp only [c1, if_false] at q
        refine ⟨rt r.2, rfl, ?_⟩
        refine cmp_call g.h13 ((hs p e).mono (by decide)) (r4.mono (by decide)) ⟨_, rfl, ?_⟩
        refine iteD (fun c2 => ?_) (fun c2 => ?_)
        · simp only [c2, if_true] at q
          exact q
        · simp only [c2, if_false] at q
          exact fault_turns g hG xs rows _ _ (fun x h => hx x (List.mem_cons_of_mem _ h)) (fun r h => hr r (List.mem_cons_of_mem _ h)) q
theorem eqv_rt2 (p q : Int × Int) : PyData.eqv (PyData.tuple [.int p.1, .int p.2]) (PyData.tuple [.int q.1, .int q.2]) = decide (p = q) := by
  obtain ⟨a, b⟩ := p
  obtain ⟨c, d⟩ := q
  simp [PyData.eqv, PyData.eqvAll, eqv_int, Bool.decide_and]
  rfl
theorem ne_rt2 {M : Mm} (p q : Int × Int) : cmpD M .NotEq (rt p) (rt q) = some (!decide (p = q)) := by
  show some (!PyData.eqv (PyData.tuple [.int p.1, .int p.2]) (PyData.tuple [.int q.1, .int q.2])) = _
  rw [eqv_rt2]
theorem eq_rt2 {M : Mm} (p q : Int × Int) : cmpD M .Eq (rt p) (rt q) = some (decide (p = q)) := by
  show some (PyData.eqv (PyData.tuple [.int p.1, .int p.2]) (PyData.tuple [.int q.1, .int q.2])) = _
  rw [eqv_rt2]
theorem sumL_sz {k : Nat} {ps : List (Int × Int)} (h : ∀ p ∈ ps, Red p ∧ Sz k p) (hl : ps.length ≤ 6) : Sz ((k + 1) * 6 + 1) (sumL ps) := by
  have go : ∀ (ps : List (Int × Int)) (n : Nat) (t : Int × Int), Sz n t → (∀ p ∈ ps, Sz k p) → Sz (n + (k + 1) * ps.length) (ps.foldl sumP t) := by
    intro ps
    induction ps with
    | nil => intro n t h _; exact h
    | cons p ps ih =>
      intro n t ht hp
      have := ih _ _ (sumP_sz ht (hp p List.mem_cons_self)) fun q hq => hp q (List.mem_cons_of_mem _ hq)
      refine this.mono ?_
      rw [List.length_cons, Nat.mul_add]
      omega
  have z : Sz 1 ((0, 1) : Int × Int) := ⟨by decide, by decide, by decide⟩
  refine (go ps 1 _ z fun p hp => (h p hp).2).mono ?_
  have : (k + 1) * ps.length ≤ (k + 1) * 6 := Nat.mul_le_mul_left _ hl
  omega
def sp_stowage_fault (CS CC : Addr) : DSp := fun ds M E Q => ∃ s d am c cm rows most, ds = [.ref s, d, c] ∧ SlotsAt CS M s (rows.map rowD) (optD most) ∧ RowsOk rows ∧ (∀ q, most = some q → Sz 3000 q) ∧ Amt M d am ∧ Am M c cm ∧ (∀ xs, cm = some xs → xs.length < 100 ∧ ∀ x ∈ xs, Cmp M x ∧ Sml 3000 x) ∧
  (match cargoW cm with
  | some w => errW CC w M E
  | none => ∀ w m, cm = some [rt w, rt m] → ∀ M', M.le M' → Q (resD (faultS rows most am w m)) M')
theorem cargoW_none {am : Option (List D)} (h : cargoW am = none) : ∃ w m, am = some [rt w, rt m] ∧ Red w ∧ Red m ∧ 0 ≤ w.1 := by
  unfold cargoW at h
  split at h
  · rename_i x y
    cases e0 : btwP x (0, 1) none with
    | false => rw [e0] at h; cases h
    | true =>
      rw [e0] at h
      cases e2 : ratO y with
      | none => rw [e2] at h; cases h
      | some q =>
        rw [btw0] at e0
        cases e : ratO x with
        | none => rw [e] at e0; cases e0
        | some p =>
          rw [e] at e0
          obtain ⟨rfl, rp⟩ := ratO_some e
          obtain ⟨rfl, rq⟩ := ratO_some e2
          refine ⟨p, q, rfl, rp, rq, ?_⟩
          have e0 : (!decide (p.1 < 0)) = true := e0
          by_cases c : p.1 < 0
          · rw [decide_eq_true c] at e0; cases e0
          · omega
  · cases h
theorem pure_stowage_fault {Γ : Gm} {CS CA CC : Addr} (g : FltG Γ CS CA CC) : ∀ ds M E Q, ds.length = 3 → sp_stowage_fault CS CC ds M E Q → bodyD Γ 9 m_stowage_fault ds M E Q := by
  rintro ds M E Q hl ⟨s, d, am, c, cm, rows, most, rfl, hS, hR, hq, hA, hC, hcx, q⟩
  have r6 := hR.1
  have rl : (rows.map rowD).length < 1000 := by simp; omega
  refine call1' g.h44 ⟨c, cm, rfl, hC, hcx, ?_⟩
  cases e : cargoW cm with
  | some w => rw [e] at q; exact q
  | none =>
    rw [e] at q
    obtain ⟨w, m, rfl, rw', rm, _⟩ := cargoW_none e
    intro x y exy
    cases exy
    replace q := q w m rfl
    show match (Γ.gv 45).insOf with | some C => _ | none => False
    rw [g.h45]
    refine ⟨mt_len g.toByG, ⟨_, _, rfl, hS⟩, mc_len g.toByG hS rl ?_⟩
    show match (Γ.gv 45).insOf with | some C => _ | none => False
    rw [g.h45]
    refine ⟨mt_len g.toByG, ⟨_, _, rfl, hS⟩, mc_len g.toByG hS rl ?_⟩
    refine seq_call g.h42 hA.1 (.inr ⟨_, rfl⟩) (.inr ⟨_, rfl⟩) ⟨_, rfl, ?_⟩
    rw [List.length_map]
    cases am with
    | none => exact iteT (q M (Mm.le_refl M))
    | some xs =>
      rw [seqP_len]
      obtain ⟨hl, hx⟩ := hA.2 xs rfl
      by_cases cc : xs.length = rows.length
      case neg =>
        rw [decide_eq_false cc]
        simp only [faultS, cc, ne_eq, not_false_eq_true, if_true] at q
        exact iteT (q M (Mm.le_refl M))
      case pos =>
        rw [decide_eq_true cc]
        simp only [faultS, cc, ne_eq, not_true_eq_false, if_false] at q
        refine iteF ?_
        have fin : ∀ x y, firstF xs rows = none → evSs Γ e_fault [some (.ref s), some d, some c, some (rt w), some (rt m), x, y, none, none] M { nx := fun _ M' => Q .non M', rt := Q, ex := fun x _ M' => E x M' } := fun x y hn => by
          obtain ⟨ps, hp, hp0⟩ := firstF_none cc hn
          rw [hn, hp] at q
          obtain ⟨rfl, red, szs⟩ := ratsO_some hp
          have sz := szs 460 fun x hx' => (hx x hx').2
          have hby : byW rows.length (some (ps.map rt)) = none := by
            simp only [byW, cc, ne_eq, not_true_eq_false, if_false, hp]
          refine call2' g.h47 ⟨s, d, _, rows, optD most, rfl, hS, hR, hA, ?_⟩
          rw [hby]
          rintro xs' ps' M1 e1 e2 l1
          cases e1
          rw [hp] at e2
          cases e2
          have q : Q (resD (endF rows most ps w m)) M1 := q M1 l1
          have hS1 := hS.le l1
          have zS : Sz 3000 (sumL ps) := by
            rw [List.length_map] at cc
            exact (sumL_sz (k := 460) (fun p h => ⟨red p h, sz p h⟩) (by omega)).mono (by decide)
          have last : overM most (sumL ps) = false → evSs Γ (.cons (.ifs (.cmp .NotEq (.var 7) (.var 3)) (.cons (.ret (.str "weight")) .nil) .nil) (.cons (.ret (.ite (.cmp .Eq (.var 8) (.var 4)) .non (.str "moment"))) .nil)) [some (.ref s), some d, some c, some (rt w), some (rt m), x, y, some (rt (sumL ps)), some (rt (sumL (moms ps rows)))] M1 { nx := fun _ M' => Q .non M', rt := Q, ex := fun x _ M' => E x M' } := fun hm => by
            unfold endF at q
            rw [hm, if_neg Bool.false_ne_true] at q
            refine ⟨_, ne_rt2 _ _, ?_⟩
            by_cases c1 : sumL ps = w
            · rw [decide_eq_true c1]
              rw [if_pos c1] at q
              refine iteF ⟨_, eq_rt2 _ _, ?_⟩
              by_cases c2 : sumL (moms ps rows) = m
              · rw [decide_eq_true c2]
                rw [if_pos c2] at q
                exact q
              · rw [decide_eq_false c2]
                rw [if_neg c2] at q
                exact q
            · rw [decide_eq_false c1]
              rw [if_neg c1] at q
              exact iteT q
          refine ⟨CS, _, _, hS1, g.f2, rfl, ?_⟩
          cases most with
          | none => exact ⟨_, rfl, last rfl⟩
          | some u =>
            refine ⟨_, rfl, ?_⟩
            refine ⟨CS, _, _, hS1, g.f2, rfl, ?_⟩
            refine cmp_call g.h13 zS (hq u rfl) ⟨_, rfl, ?_⟩
            refine iteD (fun c1 => ?_) (fun c1 => ?_)
            · have c1' : overM (some u) (sumL ps) = true := decide_eq_true c1
              simp only [endF, c1', if_true] at q
              exact q
            · exact last (decide_eq_false c1)
        have loop : ∀ G : Mm → Prop, G M → forD G (.tup (.cons (.nm 5) (.cons (.nm 6) .nil))) (evSs Γ b_fault) { nx := fun ρ1 M1 => evSs Γ e_fault ρ1 M1 { nx := fun _ M' => Q .non M', rt := Q, ex := fun x _ M' => E x M' }, rt := Q, ex := fun x _ M' => E x M' } (zipD xs (rows.map rowD)) [some (.ref s), some d, some c, some (rt w), some (rt m), none, none, none, none] M := fun G hG => by
          refine fault_turns g hG xs rows none none hx hR.2 ?_
          cases cf : firstF xs rows with
          | some v => rw [cf] at q; exact q M (Mm.le_refl M)
          | none => exact fun x y => fin x y cf
        rcases hA.1 with e1 | ⟨a, e1, h⟩
        · subst e1
          exact ⟨CS, _, _, hS, g.f1, rfl, loop _ ⟨trivial, trivial⟩⟩
        · subst e1
          exact ⟨CS, _, _, hS, g.f1, rfl, _, h, loop _ ⟨h, trivial⟩⟩
end LW
namespace LW
open PySem PySem.Spec L2 DL
/-! ### numbers -/
theorem val_mul {p q : Int × Int} (hp : 0 < p.2) (hq : 0 < q.2) : val (mulP p q) = val p * val q := by
  unfold mulP
  rw [val_lowP (den_mul hp hq)]
  unfold val
  rw [Rat.divInt_mul_divInt]
theorem val_le {p q : Int × Int} (rp : Red p) (rq : Red q) : val p ≤ val q ↔ p.1 * q.2 ≤ q.1 * p.2 := by
  obtain ⟨a1, a2, a3⟩ := red_mk rp
  obtain ⟨b1, b2, b3⟩ := red_mk rq
  rw [a3, b3, Rat.le_iff]
  have ep : ((p.2.toNat : Nat) : Int) = p.2 := Int.toNat_of_nonneg (by have := rp.1; omega)
  have eq : ((q.2.toNat : Nat) : Int) = q.2 := Int.toNat_of_nonneg (by have := rq.1; omega)
  show p.1 * ((q.2.toNat : Nat) : Int) ≤ q.1 * ((p.2.toNat : Nat) : Int) ↔ _
  rw [ep, eq]
theorem cmp_val {p q : Int × Int} (rp : Red p) (rq : Red q) : cmpP p q ≤ 0 ↔ val p ≤ val q := by rw [cmp_le, val_le rp rq]
theorem val_nn {p : Int × Int} (rp : Red p) : 0 ≤ val p ↔ 0 ≤ p.1 := by
  have := val_le red01 rp
  rw [val01] at this
  rw [this]
  show 0 * p.2 ≤ p.1 * 1 ↔ _
  omega
theorem red11 : Red ((1, 1) : Int × Int) := ⟨by decide, rfl⟩
theorem val11 : val (1, 1) = 1 := rfl
theorem low_pos {a b : Int} (hb : 0 < b) : ∃ s : Int, 0 < s ∧ (lowP a b).1 * s = a ∧ (lowP a b).2 * s = b ∧ Red (lowP a b) := by
  obtain ⟨s, h0, h1, h2, h3⟩ := lowP_parts (a := a) (b := b) (by omega)
  refine ⟨s, ?_, h1, h2, h3⟩
  have hp := h3.1
  rcases Int.lt_or_gt_of_ne h0 with c | c
  · exfalso
    have := Int.mul_neg_of_pos_of_neg hp c
    omega
  · exact c
def Part (t : Int × Int) : Prop := Red t ∧ 0 ≤ t.1 ∧ t.1 ≤ t.2
theorem low_ge {a b w : Int} (hb : 0 < b) (h : -(w * b) ≤ a) : -(w * (lowP a b).2) ≤ (lowP a b).1 := by
  obtain ⟨s, h0, h1, h2, h3⟩ := low_pos (a := a) hb
  refine Int.le_of_mul_le_mul_right (a := s) ?_ h0
  rw [Int.neg_mul, Int.mul_assoc, h1, h2]
  exact h
theorem low_le {a b w : Int} (hb : 0 < b) (h : a ≤ w * b) : (lowP a b).1 ≤ w * (lowP a b).2 := by
  obtain ⟨s, h0, h1, h2, h3⟩ := low_pos (a := a) hb
  refine Int.le_of_mul_le_mul_right (a := s) ?_ h0
  rw [Int.mul_assoc, h1, h2]
  exact h
theorem low_gt {a b : Int} (hb : 0 < b) (h : 0 < a) : 0 < (lowP a b).1 := by
  obtain ⟨s, h0, h1, h2, h3⟩ := low_pos (a := a) hb
  by_cases c : 0 < (lowP a b).1
  · exact c
  · exfalso
    have := Int.mul_nonpos_of_nonpos_of_nonneg (a := (lowP a b).1) (b := s) (by omega) (by omega)
    omega
theorem part_low {a b : Int} (hb : 0 < b) (h0 : 0 ≤ a) (h1 : a ≤ b) : Part (lowP a b) := by
  refine ⟨lowP_red (by omega), ?_, ?_⟩
  · have := low_ge (w := 0) (a := a) hb (by omega)
    omega
  · have := low_le (w := 1) (a := a) hb (by omega)
    omega
theorem mul_part {a l t : Int × Int} (ra : Red a) (rl : Red l) (ht : Part t) (h0 : 0 ≤ a.1) (h1 : cmpP a l ≤ 0) : Red (mulP a t) ∧ 0 ≤ (mulP a t).1 ∧ cmpP (mulP a t) l ≤ 0 := by
  obtain ⟨rt', t0, t1⟩ := ht
  have rm := mulP_red ra.1 rt'.1
  have vm := val_mul ra.1 rt'.1
  have va := (val_nn ra).mpr h0
  have vt := (val_nn rt').mpr t0
  have vt1 : val t ≤ 1 := by
    rw [← val11, val_le rt' red11]
    show t.1 * 1 ≤ 1 * t.2
    omega
  refine ⟨rm, ?_, ?_⟩
  · rw [← val_nn rm, vm]
    exact Rat.mul_nonneg va vt
  · rw [cmp_val rm rl, vm]
    have := Rat.mul_le_mul_of_nonneg_left vt1 va
    rw [Rat.mul_one] at this
    exact Rat.le_trans this ((cmp_val ra rl).mp h1)
theorem sz_low {a b : Int} {n : Nat} (ha : a.natAbs < 2 ^ n) (hb : b.natAbs < 2 ^ n) (h0 : 0 < b) : Sz n (lowP a b) := by
  obtain ⟨l1, l2⟩ := lowP_le (a := a) (b := b) (by omega)
  exact ⟨by omega, by omega, (lowP_red (by omega)).1⟩
/-! ### draws -/
def sp_law_pick : DSp := fun ds M _ Q => ∃ h l xs, ds = [.ref h, .ref l] ∧ HandOk M h ∧ l ≠ h ∧ M l = some (.lst xs) ∧ 0 < xs.length ∧ xs.length < 1000 ∧ ∀ x ∈ xs, ∀ M', HandOk M' h → leX h M M' → Q x M'
theorem get_nat {xs : List D} {v : Int} (v0 : 0 ≤ v) (v1 : v < xs.length) : ∃ x, x ∈ xs ∧ atI xs v = some x := by
  have hl : v.toNat < xs.length := by omega
  refine ⟨xs[v.toNat], List.getElem_mem hl, atI_get (n := v.toNat) (by omega) (List.getElem?_eq_getElem hl)⟩
theorem pure_law_pick {Γ : Gm} (hΓ : Γ.gv 21 = .fn 2 sp_law_draw []) : ∀ ds M E Q, ds.length = 2 → sp_law_pick ds M E Q → bodyD Γ 2 m_law_pick ds M E Q := by
  rintro ds M E Q hl ⟨h, l, xs, rfl, H, hne, hM, l0, l1, q⟩
  refine ⟨xs, seq_ref hM, ?_⟩
  refine draw_call hΓ H (k := xs.length) (by omega) (by omega) fun v M1 v0 v1 H1 le1 => ?_
  obtain ⟨x, hx, e⟩ := get_nat v0 v1
  exact ⟨xs, .inl (le1.1 _ _ hne hM), x, e, q x hx M1 H1 le1⟩
theorem pick_call {Γ : Gm} (hΓ : Γ.gv 49 = .fn 2 sp_law_pick []) {h l : Addr} {xs : List D} {M : Mm} {E : EK} {Q : QD} (H : HandOk M h) (hne : l ≠ h) (hM : M l = some (.lst xs)) (l0 : 0 < xs.length) (l1 : xs.length < 1000) (q : ∀ x ∈ xs, ∀ M', HandOk M' h → leX h M M' → Q x M') : callD (Γ.gv 49) 2 [.ref h, .ref l] M E Q :=
  call2' hΓ ⟨h, l, xs, rfl, H, hne, hM, l0, l1, q⟩
def Place (p : Int × Int) : Prop := Red p ∧ Sz 30 p ∧ -(1000 * p.2) ≤ p.1 ∧ p.1 ≤ 1000 * p.2
def Wei (p : Int × Int) : Prop := Red p ∧ Sz 30 p ∧ 0 < p.1
def sp_law_some : DSp := fun ds M _ Q => ∃ (h : Addr) (w : Int), ds = [.ref h, .int w] ∧ HandOk M h ∧ 0 < w ∧ w ≤ 1000 ∧ ∀ p M', Place p → HandOk M' h → leX h M M' → Q (rt p) M'
theorem pw6 : (10 : Int) ^ ((6 : Int).toNat) = 1000000 := by decide
theorem pure_law_some {Γ : Gm} (hΓ : Γ.gv 21 = .fn 2 sp_law_draw []) (hR : Γ.gv 23 = .fn 2 sp_lowest []) : ∀ ds M E Q, ds.length = 2 → sp_law_some ds M E Q → bodyD Γ 3 m_law_some ds M E Q := by
  rintro ds M E Q hl ⟨h, w, rfl, H, w0, w1, q⟩
  have cp : CPow 10 6 := ⟨by decide, by decide, by decide⟩
  refine ⟨cp, ?_⟩
  rw [pw6]
  refine draw_call hΓ H (by decide) (by decide) fun u M1 u0 u1 H1 le1 => ?_
  refine ⟨by rw [sizeLine_eq]; show 8 ≤ _; decide, fun p np => ?_⟩
  have hph := H1.ne np
  refine draw_call hΓ (H1.new np) (by decide) (by decide) fun v M2 v0 v1 H2 le2 => ?_
  have e2 := le2.1 p _ hph Mm.put_same
  have l2 : leX h M M2 := (le1.trans (leX.of (Mm.le_new np))).trans le2
  have rest : ∀ b : Int, 0 < b → b ≤ 1000000 → evSs Γ (.cons (.ret (.call 23 (.cons (.op .Sub (.call 21 (.cons (.var 0) (.cons (.op .Add (.op .Mult (.op .Mult (.int 2) (.var 1)) (.var 2)) (.int 1)) .nil))) (.op .Mult (.var 1) (.var 2))) (.cons (.var 2) .nil)))) .nil) [some (.ref h), some (.int w), some (.int b)] M2 { nx := fun _ M' => Q .non M', rt := Q, ex := fun x _ M' => E x M' } := fun b b0 b1 => by
    have wb0 : 0 < w * b := Int.mul_pos w0 b0
    have wb1 : w * b ≤ 1000 * 1000000 := Int.mul_le_mul w1 b1 (by omega) (by omega)
    have wb2 : 2 * w * b = 2 * (w * b) := Int.mul_assoc 2 w b
    refine ⟨m64 (by decide) (by omega), m64 (by omega) (by omega), ?_⟩
    refine draw_call hΓ H2 (by omega) (by omega) fun t M3 t0 t1 H3 le3 => ?_
    refine ⟨m64 (by omega) (by omega), ?_⟩
    refine ratio_call hR (by omega) (Nat.lt_trans (log2_lt (n := 64) (by omega) (by decide)) (by decide)) ?_
    have bnd : -(w * b) ≤ t - w * b ∧ t - w * b ≤ w * b := by omega
    generalize t - w * b = a at bnd ⊢
    have sz : Sz 30 (lowP a b) := sz_low (by omega) (by omega) b0
    refine q _ M3 ⟨lowP_red (by omega), sz, ?_, ?_⟩ H3 (l2.trans le3)
    · exact low_ge b0 (by have := Int.mul_le_mul_of_nonneg_right w1 (Int.le_of_lt b0); omega)
    · exact low_le b0 (by have := Int.mul_le_mul_of_nonneg_right w1 (Int.le_of_lt b0); omega)
  have hv : v = 0 ∨ v = 1 ∨ v = 2 ∨ v = 3 ∨ v = 4 ∨ v = 5 ∨ v = 6 ∨ v = 7 := by omega
  rcases hv with rfl | rfl | rfl | rfl | rfl | rfl | rfl | rfl
  · exact ⟨_, .inl e2, .int 1, rfl, rest 1 (by decide) (by decide)⟩
  · exact ⟨_, .inl e2, .int 1, rfl, rest 1 (by decide) (by decide)⟩
  · exact ⟨_, .inl e2, .int 1, rfl, rest 1 (by decide) (by decide)⟩
  · exact ⟨_, .inl e2, .int 2, rfl, rest 2 (by decide) (by decide)⟩
  · exact ⟨_, .inl e2, .int 3, rfl, rest 3 (by decide) (by decide)⟩
  · exact ⟨_, .inl e2, .int 4, rfl, rest 4 (by decide) (by decide)⟩
  · exact ⟨_, .inl e2, .int 10, rfl, rest 10 (by decide) (by decide)⟩
  · exact ⟨_, .inl e2, .int (1 + u), rfl, rest (1 + u) (by omega) (by omega)⟩
def sp_law_weight : DSp := fun ds M _ Q => ∃ h : Addr, ds = [.ref h] ∧ HandOk M h ∧ ∀ p M', Wei p → HandOk M' h → leX h M M' → Q (rt p) M'
theorem pure_law_weight {Γ : Gm} (hΓ : Γ.gv 21 = .fn 2 sp_law_draw []) (hR : Γ.gv 23 = .fn 2 sp_lowest []) : ∀ ds M E Q, ds.length = 1 → sp_law_weight ds M E Q → bodyD Γ 2 m_law_weight ds M E Q := by
  rintro ds M E Q hl ⟨h, rfl, H, q⟩
  have cp : CPow 10 6 := ⟨by decide, by decide, by decide⟩
  have cp9 : CPow 10 9 := ⟨by decide, by decide, by decide⟩
  refine ⟨cp, ?_⟩
  rw [pw6]
  refine draw_call hΓ H (by decide) (by decide) fun u M1 u0 u1 H1 le1 => ?_
  refine ⟨by rw [sizeLine_eq]; show 6 ≤ _; decide, fun p np => ?_⟩
  have hph := H1.ne np
  refine draw_call hΓ (H1.new np) (by decide) (by decide) fun v M2 v0 v1 H2 le2 => ?_
  have e2 := le2.1 p _ hph Mm.put_same
  have l2 : leX h M M2 := (le1.trans (leX.of (Mm.le_new np))).trans le2
  have rest : ∀ b : Int, 0 < b → b ≤ 1000000 → evSs Γ (.cons (.ret (.call 23 (.cons (.op .Add (.int 1) (.call 21 (.cons (.var 0) (.cons (.ix (.lst (.cons (.int 5) (.cons (.int 100) (.cons (.op .Pow (.int 10) (.int 9)) .nil)))) (.call 21 (.cons (.var 0) (.cons (.int 3) .nil)))) .nil)))) (.cons (.var 1) .nil)))) .nil) [some (.ref h), some (.int b)] M2 { nx := fun _ M' => Q .non M', rt := Q, ex := fun x _ M' => E x M' } := fun b b0 b1 => by
    refine ⟨cp9, by rw [sizeLine_eq]; show 3 ≤ _; decide, fun p2 np2 => ?_⟩
    rw [pw]
    have hph2 := H2.ne np2
    refine draw_call hΓ (H2.new np2) (by decide) (by decide) fun y M3 y0 y1 H3 le3 => ?_
    have e3 := le3.1 p2 _ hph2 Mm.put_same
    have l3 : leX h M M3 := (l2.trans (leX.of (Mm.le_new np2))).trans le3
    have hy : y = 0 ∨ y = 1 ∨ y = 2 := by omega
    rcases hy with rfl | rfl | rfl
    · refine ⟨_, .inl e3, .int 5, rfl, draw_call hΓ H3 (by decide) (by decide) fun t M4 t0 t1 H4 le4 => ?_⟩
      refine ratio_call hR (by omega) (Nat.lt_trans (log2_lt (n := 64) (by omega) (by decide)) (by decide)) ?_
      exact q _ M4 ⟨lowP_red (by omega), sz_low (by omega) (by omega) b0, low_gt b0 (by omega)⟩ H4 (l3.trans le4)
    · refine ⟨_, .inl e3, .int 100, rfl, draw_call hΓ H3 (by decide) (by decide) fun t M4 t0 t1 H4 le4 => ?_⟩
      refine ratio_call hR (by omega) (Nat.lt_trans (log2_lt (n := 64) (by omega) (by decide)) (by decide)) ?_
      exact q _ M4 ⟨lowP_red (by omega), sz_low (by omega) (by omega) b0, low_gt b0 (by omega)⟩ H4 (l3.trans le4)
    · refine ⟨_, .inl e3, .int 1000000000, rfl, draw_call hΓ H3 (by decide) (by decide) fun t M4 t0 t1 H4 le4 => ?_⟩
      refine ratio_call hR (by omega) (Nat.lt_trans (log2_lt (n := 64) (by omega) (by decide)) (by decide)) ?_
      exact q _ M4 ⟨lowP_red (by omega), sz_low (by omega) (by omega) b0, low_gt b0 (by omega)⟩ H4 (l3.trans le4)
  have hv : v = 0 ∨ v = 1 ∨ v = 2 ∨ v = 3 ∨ v = 4 ∨ v = 5 := by omega
  rcases hv with rfl | rfl | rfl | rfl | rfl | rfl
  · exact ⟨_, .inl e2, .int 1, rfl, rest 1 (by decide) (by decide)⟩
  · exact ⟨_, .inl e2, .int 1, rfl, rest 1 (by decide) (by decide)⟩
  · exact ⟨_, .inl e2, .int 2, rfl, rest 2 (by decide) (by decide)⟩
  · exact ⟨_, .inl e2, .int 3, rfl, rest 3 (by decide) (by decide)⟩
  · exact ⟨_, .inl e2, .int 7, rfl, rest 7 (by decide) (by decide)⟩
  · exact ⟨_, .inl e2, .int (1 + u), rfl, rest (1 + u) (by omega) (by omega)⟩

/-! ### a list that grows while hands are drawn -/
structure Grow (M0 M : Mm) (h l : Addr) (ds : List D) : Prop where
  ne : l ≠ h
  new : M0 l = none
  hand : HandOk M h
  cells : ∀ x xs, M h = some (.lst (x :: xs)) → x ≠ .ref l
  row : M l = some (.lst ds)
  le : leX h M0 M
theorem hand_head {M : Mm} {h : Addr} (H : HandOk M h) : ∃ c xs ds, M h = some (.lst (.ref c :: xs)) ∧ M c = some (.lst ds) ∧ c ≠ h := by
  obtain ⟨c, i, r, t, cells, h1, h2, h3, _⟩ := H
  exact ⟨c, _, _, h1, h3, h2⟩
theorem Grow.on {M0 M M' : Mm} {h l : Addr} {ds : List D} (R : Grow M0 M h l ds) (H : HandOk M' h) (e : leX h M M') : Grow M0 M' h l ds := ⟨R.ne, R.new, H, fun x xs e1 => by
  obtain ⟨c, ys, es, h1, _⟩ := hand_head R.hand
  obtain ⟨zs, e2⟩ := e.2 _ _ h1
  rw [e2] at e1
  cases e1
  exact R.cells _ _ h1, e.1 _ _ R.ne R.row, R.le.trans e⟩
theorem Grow.onle {M0 M M' : Mm} {h l : Addr} {ds : List D} (R : Grow M0 M h l ds) (e : M.le M') : Grow M0 M' h l ds := R.on (R.hand.le e) (leX.of e)
theorem Grow.set {M0 M : Mm} {h l : Addr} {ds es : List D} (R : Grow M0 M h l ds) : Grow M0 (M.put l (.lst es)) h l es := by
  obtain ⟨c, i, rr, t, cells, h1, h2, h3, h4⟩ := R.hand
  have hrc : c ≠ l := fun e => R.cells _ _ h1 (by rw [e])
  refine ⟨R.ne, R.new, ⟨c, i, rr, t, cells, ?_, h2, ?_, h4⟩, ?_, Mm.put_same, ⟨fun a o ha e => ?_, fun x xs e => ?_⟩⟩
  · rw [Mm.put_ne (Ne.symm R.ne)]; exact h1
  · rw [Mm.put_ne hrc]; exact h3
  · rw [Mm.put_ne (Ne.symm R.ne)]; exact R.cells
  · have : a ≠ l := fun z => by rw [z, R.new] at e; cases e
    rw [Mm.put_ne this]
    exact R.le.1 a o ha e
  · rw [Mm.put_ne (Ne.symm R.ne)]
    exact R.le.2 x xs e
theorem Grow.start {M0 M : Mm} {h l : Addr} {ds : List D} (H : HandOk M h) (e : leX h M0 M) (n : M l = none) : Grow M0 (M.put l (.lst ds)) h l ds := by
  have hrh := H.ne n
  refine ⟨hrh, ?_, H.new n, fun x xs e1 => ?_, Mm.put_same, e.trans (leX.of (Mm.le_new n))⟩
  · cases c : M0 l with
    | none => rfl
    | some o => rw [e.1 _ _ hrh c] at n; cases n
  · rw [Mm.put_ne (Ne.symm hrh)] at e1
    obtain ⟨c, ys, es, h1, h2, _⟩ := hand_head H
    rw [h1] at e1
    cases e1
    intro z
    cases z
    rw [n] at h2; cases h2
def SlotR (r : RR) : Prop := Place r.1 ∧ Wei r.2
def a_slot : Sms := (.cons (.expr (.mth .append (.var 1) (.cons (.tup (.cons (.var 4) (.cons (.call 51 (.cons (.var 0) .nil)) .nil))) .nil))) .nil)
def b_slot3 : Sms := .cons (.ifs (.cmp .Eq (.call 21 (.cons (.var 0) (.cons (.int 16) .nil))) (.int 0)) (.cons (.set 4 (.ix (.lst (.cons (.tup (.cons (.int 1000) (.cons (.int 1) .nil))) (.cons (.tup (.cons (.neg (.int 1000)) (.cons (.int 1) .nil))) .nil))) (.call 21 (.cons (.var 0) (.cons (.int 2) .nil))))) .nil) .nil) a_slot
def b_slot : Sms := (.cons (.set 4 (.call 50 (.cons (.var 0) (.cons (.var 2) .nil)))) (.cons (.ifs (.bop .And (.cons (.val (.var 1)) (.cons (.cmp .Eq (.call 21 (.cons (.var 0) (.cons (.int 4) .nil))) (.int 0)) .nil))) (.cons (.set 4 (.ix (.ix (.var 1) (.call 21 (.cons (.var 0) (.cons (.bi .len (.cons (.var 1) .nil)) .nil)))) (.int 0))) .nil) .nil) b_slot3))
structure DrawG (Γ : Gm) : Prop where
  h21 : Γ.gv 21 = .fn 2 sp_law_draw []
  h23 : Γ.gv 23 = .fn 2 sp_lowest []
  h50 : Γ.gv 50 = .fn 2 sp_law_some []
  h51 : Γ.gv 51 = .fn 1 sp_law_weight []
section
variable {Γ : Gm} {M0 M : Mm} {h l : Addr} {w : Int} {k : D} {p : Int × Int} {rows : List RR} {K : KE}
theorem ev_aslot (g : DrawG Γ) (R : Grow M0 M h l (rows.map rowD)) (hl : rows.length < 100) (hp : Place p)
    (q : ∀ r M', SlotR r → Grow M0 M' h l ((rows ++ [r]).map rowD) → K.nx [some (.ref h), some (.ref l), some (.int w), some k, some (rt p)] M') : evSs Γ a_slot [some (.ref h), some (.ref l), some (.int w), some k, some (rt p)] M K := by
  refine ⟨⟨_, .inl R.row⟩, ?_⟩
  refine call1' g.h51 ⟨h, rfl, R.hand, fun v M1 hv H1 le1 => ?_⟩
  have R1 := R.on H1 le1
  refine ⟨by rw [sizeLine_eq]; show 2 ≤ _; decide, _, R1.row, by rw [sizeLine_eq]; simp; omega, ?_⟩
  refine q (p, v) _ ⟨hp, hv⟩ ?_
  rw [List.map_append]
  exact R1.set
theorem pl1 : Place (1000, 1) := ⟨⟨by decide, rfl⟩, ⟨by decide, by decide, by decide⟩, by decide, by decide⟩
theorem pl2 : Place (-1000, 1) := ⟨⟨by decide, rfl⟩, ⟨by decide, by decide, by decide⟩, by decide, by decide⟩
theorem ev_bslot3 (g : DrawG Γ) (R : Grow M0 M h l (rows.map rowD)) (hl : rows.length < 100) (hp : Place p)
    (q : ∀ r M' x, SlotR r → Grow M0 M' h l ((rows ++ [r]).map rowD) → K.nx [some (.ref h), some (.ref l), some (.int w), some k, some x] M') : evSs Γ b_slot3 [some (.ref h), some (.ref l), some (.int w), some k, some (rt p)] M K := by
  refine draw_call g.h21 R.hand (by decide) (by decide) fun v M1 v0 v1 H1 le1 => ⟨_, rfl, ?_⟩
  have R1 := R.on H1 le1
  rw [eqv_int]
  refine iteD (fun _ => ?_) (fun _ => ev_aslot g R1 hl hp fun r M' a b => q r M' _ a b)
  refine ⟨by rw [sizeLine_eq]; show 2 ≤ _; decide, by rw [sizeLine_eq]; show 2 ≤ _; decide, by rw [sizeLine_eq]; show 2 ≤ _; decide, fun p2 np2 => ?_⟩
  have hne := H1.ne np2
  have R2 := R1.onle (put_le (o := .lst [rt (1000, 1), rt (-1000, 1)]) np2)
  refine draw_call g.h21 R2.hand (by decide) (by decide) fun v M3 v0 v1 H3 le3 => ?_
  have R3 := R2.on H3 le3
  have e3 := le3.1 p2 _ hne Mm.put_same
  have hv : v = 0 ∨ v = 1 := by omega
  rcases hv with rfl | rfl
  · exact ⟨_, .inl e3, rt (1000, 1), rfl, ev_aslot g R3 hl pl1 fun r M' a b => q r M' _ a b⟩
  · exact ⟨_, .inl e3, rt (-1000, 1), rfl, ev_aslot g R3 hl pl2 fun r M' a b => q r M' _ a b⟩
theorem ev_bslot (g : DrawG Γ) {z : Option D} (R : Grow M0 M h l (rows.map rowD)) (hl : rows.length < 100) (hr : ∀ r ∈ rows, SlotR r) (w0 : 0 < w) (w1 : w ≤ 1000)
    (q : ∀ r M' x, SlotR r → Grow M0 M' h l ((rows ++ [r]).map rowD) → K.nx [some (.ref h), some (.ref l), some (.int w), some k, some x] M') : evSs Γ b_slot [some (.ref h), some (.ref l), some (.int w), some k, z] M K := by
  refine call2' g.h50 ⟨h, w, rfl, R.hand, w0, w1, fun p M1 hp H1 le1 => ?_⟩
  have R1 := R.on H1 le1
  refine ⟨!(rows.map rowD).isEmpty, by simp only [truD, R1.row], ?_⟩
  cases rows with
  | nil => exact ev_bslot3 g R1 hl hp q
  | cons r0 rs =>
    refine draw_call g.h21 R1.hand (by decide) (by decide) fun v M2 v0 v1 H2 le2 => ⟨_, rfl, ?_⟩
    have R2 := R1.on H2 le2
    rw [eqv_int]
    refine iteD (fun _ => ?_) (fun _ => ev_bslot3 g R2 hl hp q)
    refine ⟨_, seq_ref R2.row, ?_⟩
    refine draw_call g.h21 R2.hand (by simp <;> omega) (by simp at hl ⊢ <;> omega) fun u M3 u0 u1 H3 le3 => ?_
    have R3 := R2.on H3 le3
    obtain ⟨x, hx, e⟩ := get_nat u0 u1
    obtain ⟨r1, hr1, rfl⟩ := List.mem_map.mp hx
    exact ⟨_, .inl R3.row, _, e, rt r1.1, rfl, ev_bslot3 g R3 hl (hr r1 hr1).1 q⟩
end
theorem slot_turns {Γ : Gm} (g : DrawG Γ) {M0 : Mm} {h l : Addr} {w : Int} (w0 : 0 < w) (w1 : w ≤ 1000) {K : KE} : ∀ (I : List D) (M : Mm) (rows : List RR) (x z : Option D), Grow M0 M h l (rows.map rowD) → rows.length + I.length < 100 → (∀ r ∈ rows, SlotR r) →
    (∀ (rows' : List RR) M' x z, rows'.length = rows.length + I.length → (∀ r ∈ rows', SlotR r) → Grow M0 M' h l (rows'.map rowD) → K.nx [some (.ref h), some (.ref l), some (.int w), x, z] M') → forD (fun _ => True) (.nm 3) (evSs Γ b_slot) K I [some (.ref h), some (.ref l), some (.int w), x, z] M
  | [], M, rows, x, z, R, _, hr, q => ⟨trivial, q rows M x z rfl hr R⟩
  | i :: I, M, rows, x, z, R, hl, hr, q => by
    have hl : rows.length + (I.length + 1) < 100 := hl
    refine ⟨trivial, ?_⟩
    refine ev_bslot g R (by omega) hr w0 w1 fun r M' x a b => ?_
    refine slot_turns g w0 w1 I M' (rows ++ [r]) _ _ b (by simp; omega) (fun r' h' => ?_) fun rows' M' x z e => q rows' M' x z (by rw [e]; simp; omega)
    rcases List.mem_append.mp h' with h' | h'
    · exact hr r' h'
    · rw [List.mem_singleton] at h'; subst h'; exact a
def sp_law_slot_rows : DSp := fun ds M _ Q => ∃ h, ds = [.ref h] ∧ HandOk M h ∧ ∀ l (rows : List RR) M', 1 ≤ rows.length → rows.length ≤ 6 → (∀ r ∈ rows, SlotR r) → l ≠ h → M' l = some (.lst (rows.map rowD)) → HandOk M' h → leX h M M' → Q (.ref l) M'
theorem pure_law_slot_rows {Γ : Gm} (g : DrawG Γ) : ∀ ds M E Q, ds.length = 1 → sp_law_slot_rows ds M E Q → bodyD Γ 5 m_law_slot_rows ds M E Q := by
  rintro ds M E Q hl ⟨h, rfl, H, q⟩
  refine ⟨Nat.zero_le _, fun l nl => ?_⟩
  have R : Grow M (M.put l (.lst [])) h l [] := Grow.start H leX.refl nl
  refine ⟨by rw [sizeLine_eq]; show 3 ≤ _; decide, fun p2 np2 => ?_⟩
  have R1 := R.onle (put_le (o := .lst [.int 5, .int 20, .int 1000]) np2)
  have hne := R.hand.ne np2
  refine draw_call g.h21 R1.hand (by decide) (by decide) fun v M2 v0 v1 H2 le2 => ?_
  have R2 := R1.on H2 le2
  have e2 := le2.1 p2 _ hne Mm.put_same
  have rest : ∀ w : Int, 0 < w → w ≤ 1000 → evSs Γ (.cons (.fo (.nm 3) (.rng1 (.op .Add (.int 1) (.call 21 (.cons (.var 0) (.cons (.int 6) .nil))))) b_slot) (.cons (.ret (.var 1)) .nil)) [some (.ref h), some (.ref l), some (.int w), none, none] M2 { nx := fun _ M' => Q .non M', rt := Q, ex := fun x _ M' => E x M' } := fun w w0 w1 => by
    refine draw_call g.h21 R2.hand (by decide) (by decide) fun u M3 u0 u1 H3 le3 => ?_
    refine ⟨⟨by omega, by omega⟩, ?_⟩
    refine slot_turns g w0 w1 _ M3 [] none none (R2.on H3 le3) (by rw [rngD_len]; simp; omega) (fun r h => by cases h) fun rows M' x z e hr R => ?_
    rw [rngD_len] at e
    exact q l rows M' (by simp at e; omega) (by simp at e; omega) hr R.ne R.row R.hand R.le
  have hv : v = 0 ∨ v = 1 ∨ v = 2 := by omega
  rcases hv with rfl | rfl | rfl
  · exact ⟨_, .inl e2, .int 5, rfl, rest 5 (by decide) (by decide)⟩
  · exact ⟨_, .inl e2, .int 20, rfl, rest 20 (by decide) (by decide)⟩
  · exact ⟨_, .inl e2, .int 1000, rfl, rest 1000 (by decide) (by decide)⟩
end LW
namespace LW
open PySem PySem.Spec L2 DL
/-! ### the law's sums -/
def sp_law_sum : DSp := fun ds M _ Q => ∃ d ps k, ds = [d] ∧ Row M d ps ∧ (∀ p ∈ ps, Red p ∧ Sz k p) ∧ ps.length ≤ 6 ∧ k ≤ 490 ∧ Q (rt (sumL ps)) M
def b_lsum : Sms := (.cons (.set 1 (.call 24 (.cons (.var 1) (.cons (.var 2) .nil)))) .nil)
theorem sz01' : Sz 1 ((0, 1) : Int × Int) := ⟨by decide, by decide, by decide⟩
theorem lsum_turns {Γ : Gm} (h24 : Γ.gv 24 = .fn 2 sp_plus []) {G : Mm → Prop} {M : Mm} (hG : G M) {d : Option D} {K : KE} {k : Nat} (hk : k ≤ 490) : ∀ (ps : List (Int × Int)) (n : Nat) (t : Int × Int) (x : Option D), Sz n t → (∀ p ∈ ps, Sz k p) → n + (k + 1) * ps.length ≤ 3000 → (∀ x, K.nx [d, some (rt (ps.foldl sumP t)), x] M) → forD G (.nm 2) (evSs Γ b_lsum) K (ps.map rt) [d, some (rt t), x] M
  | [], n, t, x, _, _, _, q => ⟨hG, q x⟩
  | p :: ps, n, t, x, ht, hp, hl, q => by
    rw [List.length_cons, Nat.mul_add, Nat.mul_one] at hl
    have sp := hp p List.mem_cons_self
    refine ⟨hG, ?_⟩
    refine call2' h24 ⟨t, p, rfl, ht.mono (by omega), sp.mono (by omega), ?_⟩
    exact lsum_turns h24 hG hk ps _ _ _ (sumP_sz ht sp) (fun q hq => hp q (List.mem_cons_of_mem _ hq)) (by omega) q
theorem pure_law_sum {Γ : Gm} (h24 : Γ.gv 24 = .fn 2 sp_plus []) : ∀ ds M E Q, ds.length = 1 → sp_law_sum ds M E Q → bodyD Γ 3 m_law_sum ds M E Q := by
  rintro ds M E Q hl ⟨d, ps, k, rfl, hr, hp, hl, hk, q⟩
  have b1 : (k + 1) * ps.length ≤ 491 * 6 := Nat.mul_le_mul (by omega) hl
  refine ⟨by rw [sizeLine_eq]; show 2 ≤ _; decide, ?_⟩
  rcases hr with rfl | ⟨a, rfl, h⟩
  · exact lsum_turns h24 trivial hk ps 1 (0, 1) none sz01' (fun p h => (hp p h).2) (by omega) fun x => q
  · exact ⟨_, h, lsum_turns h24 h hk ps 1 (0, 1) none sz01' (fun p h => (hp p h).2) (by omega) fun x => q⟩
theorem lsum_call {Γ : Gm} (hΓ : Γ.gv 53 = .fn 1 sp_law_sum []) {d : D} {ps : List (Int × Int)} {k : Nat} {M : Mm} {E : EK} {Q : QD} (hr : Row M d ps) (hp : ∀ p ∈ ps, Red p ∧ Sz k p) (hl : ps.length ≤ 6) (hk : k ≤ 490) (q : Q (rt (sumL ps)) M) : callD (Γ.gv 53) 1 [d] M E Q := call1' hΓ ⟨d, ps, k, rfl, hr, hp, hl, hk, q⟩
theorem sum_pos : ∀ (ps : List (Int × Int)) (t : Int × Int), 0 < t.1 → 0 < t.2 → (∀ p ∈ ps, 0 < p.1 ∧ 0 < p.2) → 0 < (ps.foldl sumP t).1
  | [], t, h, _, _ => h
  | p :: ps, t, h, h2, hp => by
    obtain ⟨p1, p2⟩ := hp p List.mem_cons_self
    have h3 : 0 < t.2 * p.2 := Int.mul_pos h2 p2
    have a1 : 0 < t.1 * p.2 := Int.mul_pos h p2
    have a2 : 0 < p.1 * t.2 := Int.mul_pos p1 h2
    refine sum_pos ps (sumP t p) (low_gt h3 (by omega)) (sumP_red h2 p2).1 fun q hq => hp q (List.mem_cons_of_mem _ hq)
theorem sumL_pos {p : Int × Int} {ps : List (Int × Int)} (hp : ∀ q ∈ p :: ps, 0 < q.1 ∧ 0 < q.2) : 0 < (sumL (p :: ps)).1 := by
  obtain ⟨p1, p2⟩ := hp p List.mem_cons_self
  show 0 < (ps.foldl sumP (sumP (0, 1) p)).1
  refine sum_pos ps _ (low_gt (by show 0 < 1 * p.2; omega) (by show 0 < 0 * p.2 + p.1 * 1; omega)) (sumP_red (by decide) p2).1 fun q hq => hp q (List.mem_cons_of_mem _ hq)
/-! ### the law's most -/
def MostOk (most : Option (Int × Int)) : Prop := ∀ q, most = some q → Red q ∧ Sz 191 q ∧ 0 < q.1
def sp_law_most : DSp := fun ds M _ Q => ∃ h l, ∃ rows : List RR, ds = [.ref h, .ref l] ∧ HandOk M h ∧ l ≠ h ∧ M l = some (.lst (rows.map rowD)) ∧ 1 ≤ rows.length ∧ rows.length ≤ 6 ∧ (∀ r ∈ rows, SlotR r) ∧ ∀ most M', MostOk most → HandOk M' h → leX h M M' → Q (optD most) M'
def sndD (d : D) : D := match d with
  | .tup [_, y] => y
  | _ => .non
structure SumG (Γ : Gm) : Prop extends DrawG Γ where
  h26 : Γ.gv 26 = .fn 2 sp_times []
  h53 : Γ.gv 53 = .fn 1 sp_law_sum []
theorem snd_rows (rows : List RR) : (rows.map rowD).map sndD = (rows.map (·.2)).map rt := by
  rw [List.map_map, List.map_map]
  exact List.map_congr_left fun r _ => rfl
theorem pure_law_most {Γ : Gm} (g : SumG Γ) : ∀ ds M E Q, ds.length = 2 → sp_law_most ds M E Q → bodyD Γ 4 m_law_most ds M E Q := by
  rintro ds M E Q hl ⟨h, l, rows, rfl, H, hne, hM, l1, l6, hr, q⟩
  refine draw_call g.h21 H (by decide) (by decide) fun v M1 v0 v1 H1 le1 => ⟨_, rfl, ?_⟩
  rw [eqv_int]
  refine iteD (fun _ => q none M1 (fun _ e => by cases e) H1 le1) (fun _ => ?_)
  have hM1 := le1.1 _ _ hne hM
  refine ⟨_, .inl hM1, fun p np => ?_⟩
  have hw : ∀ p ∈ rows.map (·.2), Red p ∧ Sz 30 p := fun p hp => by
    obtain ⟨r, h1, rfl⟩ := List.mem_map.mp hp
    exact ⟨(hr r h1).2.1, (hr r h1).2.2.1⟩
  have hw2 : ∀ p ∈ rows.map (·.2), 0 < p.1 ∧ 0 < p.2 := fun p hp => by
    obtain ⟨r, h1, rfl⟩ := List.mem_map.mp hp
    exact ⟨(hr r h1).2.2.2, (hr r h1).2.1.1⟩
  have rd : Red (sumL (rows.map (·.2))) := sumL_red fun p hp => (hw p hp).1
  have z : Sz 187 (sumL (rows.map (·.2))) := sumL_sz hw (by simp; omega)
  have pos : 0 < (sumL (rows.map (·.2))).1 := by
    cases rows with
    | nil => simp at l1
    | cons r rs => exact sumL_pos hw2
  refine compL_map (M := M1) sndD (fun acc => .inl ((put_le np) _ _ hM1)) _ [] _ (fun e he acc K hK => ?_) (by simp; omega) ?_
  · obtain ⟨r, h1, rfl⟩ := List.mem_map.mp he
    exact hK
  · rw [List.nil_append, snd_rows]
    have np1 := H1.new (o := .lst ((rows.map (·.2)).map rt)) np
    refine lsum_call g.h53 (.inr ⟨p, rfl, .inl Mm.put_same⟩) hw (by simp; omega) (by decide) ?_
    refine draw_call g.h21 np1 (by decide) (by decide) fun u M2 u0 u1 H2 le2 => ?_
    refine ratio_call g.h23 (by decide) (by decide) ?_
    have rl : Red (lowP (1 + u) 8) := lowP_red (by decide)
    have zl : Sz 4 (lowP (1 + u) 8) := sz_low (by omega) (by decide) (by decide)
    have ml := Int.mul_pos rd.1 rl.1
    refine call2' g.h26 ⟨_, _, rfl, z.mono (by decide), zl.mono (by decide), ?_⟩
    refine q (some _) M2 (fun q' e => ?_) H2 ((le1.trans (leX.of (put_le np))).trans le2)
    cases e
    exact ⟨mulP_red rd.1 rl.1, mulP_sz z zl, low_gt ml (Int.mul_pos pos (low_gt (by decide) (by omega)))⟩
end LW
namespace LW
open PySem PySem.Spec L2 DL
/-! ### the law's amounts -/
def Fit : List (Int × Int) → List RR → Prop
  | [], [] => True
  | p :: ps, r :: rs => (Red p ∧ 0 ≤ p.1 ∧ cmpP p r.2 ≤ 0) ∧ Fit ps rs
  | _, _ => False
theorem Fit.add : ∀ {ps : List (Int × Int)} {rs : List RR} {p : Int × Int} {r : RR}, Fit ps rs → (Red p ∧ 0 ≤ p.1 ∧ cmpP p r.2 ≤ 0) → Fit (ps ++ [p]) (rs ++ [r])
  | [], [], _, _, _, h => ⟨h, trivial⟩
  | _ :: _, _ :: _, _, _, f, h => ⟨f.1, Fit.add f.2 h⟩
  | [], _ :: _, _, _, f, _ => by cases f
  | _ :: _, [], _, _, f, _ => by cases f
theorem Fit.len : ∀ {ps : List (Int × Int)} {rs : List RR}, Fit ps rs → ps.length = rs.length
  | [], [], _ => rfl
  | _ :: _, _ :: _, f => by simp [Fit.len f.2]
  | [], _ :: _, f => by cases f
  | _ :: _, [], f => by cases f
theorem Fit.red : ∀ {ps : List (Int × Int)} {rs : List RR}, Fit ps rs → ∀ p ∈ ps, Red p
  | [], _, _, p, h => by cases h
  | q :: qs, r :: rs, f, p, h => by
    rcases List.mem_cons.mp h with rfl | h
    · exact f.1.1
    · exact Fit.red f.2 p h
  | _ :: _, [], f, _, _ => by cases f
theorem Fit.first : ∀ {ps : List (Int × Int)} {rs : List RR}, Fit ps rs → firstF (ps.map rt) rs = none
  | [], [], _ => rfl
  | p :: ps, r :: rs, f => by
    obtain ⟨⟨a, b, c⟩, f⟩ := f
    rw [List.map_cons]
    simp only [firstF, ratO_red a]
    rw [if_neg (by omega), if_neg (by omega)]
    exact Fit.first f
  | [], _ :: _, f => by cases f
  | _ :: _, [], f => by cases f
theorem Fit.part {t : Int × Int} (ht : Part t) : ∀ {ps : List (Int × Int)} {rs : List RR}, Fit ps rs → (∀ r ∈ rs, Red r.2) → Fit (ps.map fun p => mulP p t) rs
  | [], [], _, _ => trivial
  | p :: ps, r :: rs, f, hr => ⟨mul_part f.1.1 (hr r List.mem_cons_self) ht f.1.2.1 f.1.2.2, Fit.part ht f.2 fun r' h => hr r' (List.mem_cons_of_mem _ h)⟩
  | [], _ :: _, f, _ => by cases f
  | _ :: _, [], f, _ => by cases f
theorem rsum_mul {t : Int × Int} (ht : 0 < t.2) : ∀ (ps : List (Int × Int)), (∀ p ∈ ps, 0 < p.2) → rsum (ps.map fun p => mulP p t) = rsum ps * val t
  | [], _ => by
    show (0 : Rat) = 0 * val t
    rw [Rat.zero_mul]
  | p :: ps, h => by
    show val (mulP p t) + rsum (ps.map fun p => mulP p t) = (val p + rsum ps) * val t
    rw [val_mul (h p List.mem_cons_self) ht, rsum_mul ht ps fun q hq => h q (List.mem_cons_of_mem _ hq), Rat.add_mul]
theorem cmp_self (p : Int × Int) : cmpP p p = 0 := by
  unfold cmpP
  rw [if_pos (by omega)]
/-- all scaled so that their sum is u -/
theorem scaled {ps : List (Int × Int)} {u : Int × Int} (hp : ∀ p ∈ ps, Red p) (hu : Red u) (h0 : 0 < u.1) (hc : 0 < cmpP (sumL ps) u) :
    0 < u.2 * (sumL ps).1 ∧ Part (lowP (u.1 * (sumL ps).2) (u.2 * (sumL ps).1)) ∧ sumL (ps.map fun p => mulP p (lowP (u.1 * (sumL ps).2) (u.2 * (sumL ps).1))) = u := by
  have rs := sumL_red hp
  rw [cmp_pos] at hc
  have a1 : 0 < u.1 * (sumL ps).2 := Int.mul_pos h0 rs.1
  have e : (sumL ps).1 * u.2 = u.2 * (sumL ps).1 := Int.mul_comm _ _
  have w0 : 0 < (sumL ps).1 := by
    by_cases c : 0 < (sumL ps).1
    · exact c
    · exfalso
      have := Int.mul_nonpos_of_nonpos_of_nonneg (a := (sumL ps).1) (b := u.2) (by omega) (by have := hu.1; omega)
      omega
  have b0 : 0 < u.2 * (sumL ps).1 := Int.mul_pos hu.1 w0
  have pt := part_low (a := u.1 * (sumL ps).2) b0 (by omega) (by omega)
  refine ⟨b0, pt, ?_⟩
  have vt : val (lowP (u.1 * (sumL ps).2) (u.2 * (sumL ps).1)) * val (sumL ps) = val u := by
    rw [← val_mul pt.1.1 rs.1, over_times hu rs (by omega)]
  refine (sumL_of (fun q hq => ?_) hu ?_).symm
  · obtain ⟨p, h1, rfl⟩ := List.mem_map.mp hq
    exact mulP_red (hp p h1).1 pt.1.1
  · rw [rsum_mul pt.1.1 ps fun p h => (hp p h).1, ← sumL_val hp, Rat.mul_comm, vt]
def a_amt : Sms := (.cons (.set 6 (.call 49 (.cons (.var 0) (.cons (.lst (.cons (.tup (.cons (.int 0) (.cons (.int 1) .nil))) (.cons (.tup (.cons (.int 1) (.cons (.int 1) .nil))) (.cons (.tup (.cons (.int 1) (.cons (.int 2) .nil))) (.cons (.call 23 (.cons (.call 21 (.cons (.var 0) (.cons (.int 101) .nil))) (.cons (.int 100) .nil))) .nil))))) .nil)))) (.cons (.expr (.mth .append (.var 3) (.cons (.call 26 (.cons (.var 5) (.cons (.var 6) .nil))) .nil))) .nil))
structure AmtG (Γ : Gm) : Prop extends SumG Γ where
  h27 : Γ.gv 27 = .fn 2 sp_compare []
  h49 : Γ.gv 49 = .fn 2 sp_law_pick []
def PartZ (t : Int × Int) : Prop := Part t ∧ Sz 7 t
theorem pz1 : PartZ (0, 1) := ⟨⟨⟨by decide, rfl⟩, by decide, by decide⟩, by decide, by decide, by decide⟩
theorem pz2 : PartZ (1, 1) := ⟨⟨⟨by decide, rfl⟩, by decide, by decide⟩, by decide, by decide, by decide⟩
theorem pz3 : PartZ (1, 2) := ⟨⟨⟨by decide, rfl⟩, by decide, by decide⟩, by decide, by decide, by decide⟩
theorem ev_amt {Γ : Gm} (g : AmtG Γ) {M0 M : Mm} {h l : Addr} {b c x z e7 e8 : Option D} {r : RR} {ps : List (Int × Int)} {K : KE} (R : Grow M0 M h l (ps.map rt)) (hl : ps.length < 100) (hr : Red r.2 ∧ Sz 30 r.2 ∧ 0 < r.2.1)
    (q : ∀ p t M', (Red p ∧ 0 ≤ p.1 ∧ cmpP p r.2 ≤ 0) → Sz 37 p → Grow M0 M' h l ((ps ++ [p]).map rt) → K.nx [some (.ref h), b, c, some (.ref l), x, some (rt r.2), some t, e7, e8] M') : evSs Γ a_amt [some (.ref h), b, c, some (.ref l), x, some (rt r.2), z, e7, e8] M K := by
  refine ⟨by rw [sizeLine_eq]; show 2 ≤ _; decide, by rw [sizeLine_eq]; show 2 ≤ _; decide, by rw [sizeLine_eq]; show 2 ≤ _; decide, ?_⟩
  refine draw_call g.h21 R.hand (by decide) (by decide) fun v M1 v0 v1 H1 le1 => ?_
  have R1 := R.on H1 le1
  refine ratio_call g.h23 (by decide) (by decide) ?_
  have pl := part_low (a := v) (b := 100) (by decide) v0 (by omega)
  have zl : Sz 7 (lowP v 100) := sz_low (by omega) (by decide) (by decide)
  refine ⟨by rw [sizeLine_eq]; show 4 ≤ _; decide, fun p2 np2 => ?_⟩
  have hne := H1.ne np2
  have R2 := R1.onle (put_le (o := .lst [rt (0, 1), rt (1, 1), rt (1, 2), rt (lowP v 100)]) np2)
  refine pick_call g.h49 R2.hand hne Mm.put_same (by show 0 < 4; decide) (by show 4 < 1000; decide) fun x hx M3 H3 le3 => ?_
  have R3 := R2.on H3 le3
  have ht : ∃ t, x = rt t ∧ PartZ t := by
    simp only [List.mem_cons, List.not_mem_nil, or_false] at hx
    rcases hx with rfl | rfl | rfl | rfl
    · exact ⟨_, rfl, pz1⟩
    · exact ⟨_, rfl, pz2⟩
    · exact ⟨_, rfl, pz3⟩
    · exact ⟨_, rfl, pl, zl⟩
  obtain ⟨t, rfl, pt, zt⟩ := ht
  refine ⟨⟨_, .inl R3.row⟩, ?_⟩
  refine call2' g.h26 ⟨_, _, rfl, hr.2.1.mono (by decide), zt.mono (by decide), ?_⟩
  refine ⟨_, R3.row, by rw [sizeLine_eq]; simp; omega, ?_⟩
  refine q (mulP r.2 t) _ _ (mul_part hr.1 hr.1 pt (by omega) (by rw [cmp_self]; decide)) (mulP_sz hr.2.1 zt) ?_
  rw [List.map_append]
  exact R3.set
theorem amt_turns {Γ : Gm} (g : AmtG Γ) {M0 : Mm} {G : Mm → Prop} {h l : Addr} {b c e7 e8 : Option D} {K : KE} (hG : ∀ M' ds, Grow M0 M' h l ds → G M') : ∀ (todo done : List RR) (M : Mm) (ps : List (Int × Int)) (x y z : Option D), Grow M0 M h l (ps.map rt) → done.length + todo.length < 100 → (∀ r ∈ todo, SlotR r) → Fit ps done → (∀ p ∈ ps, Sz 37 p) →
    (∀ (ps : List (Int × Int)) M' x y z, Fit ps (done ++ todo) → (∀ p ∈ ps, Sz 37 p) → Grow M0 M' h l (ps.map rt) → K.nx [some (.ref h), b, c, some (.ref l), x, y, z, e7, e8] M') → forD G (.tup (.cons (.nm 4) (.cons (.nm 5) .nil))) (evSs Γ a_amt) K (todo.map rowD) [some (.ref h), b, c, some (.ref l), x, y, z, e7, e8] M
  | [], done, M, ps, x, y, z, R, _, _, f, s, q => ⟨hG M _ R, q ps M x y z (by rw [List.append_nil]; exact f) s R⟩
  | r :: todo, done, M, ps, x, y, z, R, hl, hr, f, s, q => by
    rw [List.length_cons] at hl
    have h1 := hr r List.mem_cons_self
    refine ⟨hG M _ R, ?_⟩
    refine ev_amt g (r := r) R (by rw [f.len]; omega) h1.2 fun p t M' a1 a2 R' => ?_
    refine amt_turns g hG todo (done ++ [r]) M' (ps ++ [p]) _ _ _ R' (by simp; omega) (fun r' h => hr r' (List.mem_cons_of_mem _ h)) (f.add a1) (fun p' hp' => ?_) fun ps M' x y z f' => q ps M' x y z (by rw [List.append_assoc] at f'; exact f')
    rcases List.mem_append.mp hp' with h | h
    · exact s p' h
    · rw [List.mem_singleton] at h; subst h; exact a2
def scF (t : Int × Int) (d : D) : D := match d with
  | .tup [.int a, .int b] => rt (mulP (a, b) t)
  | _ => .non
theorem sc_map (t : Int × Int) (ps : List (Int × Int)) : (ps.map rt).map (scF t) = (ps.map fun p => mulP p t).map rt := by
  rw [List.map_map, List.map_map]
  exact List.map_congr_left fun r _ => rfl
def sp_law_amounts27 : DSp := fun ds M _ Q => ∃ h l most, ∃ rows : List RR, ds = [.ref h, .ref l, optD most] ∧ HandOk M h ∧ l ≠ h ∧ M l = some (.lst (rows.map rowD)) ∧ rows.length ≤ 6 ∧ (∀ r ∈ rows, SlotR r) ∧ MostOk most ∧
  ∀ (ps : List (Int × Int)) M', Fit ps rows → (∀ p ∈ ps, Sz 460 p) → overM most (sumL ps) = false → HandOk M' h → leX h M M' → Q (.tup (ps.map rt)) M'
theorem pure_law_amounts27 {Γ : Gm} (g : AmtG Γ) : ∀ ds M E Q, ds.length = 3 → sp_law_amounts27 ds M E Q → bodyD Γ 9 m_law_amounts27 ds M E Q := by
  rintro ds M E Q hl ⟨h, l, most, rows, rfl, H, hne, hM, l6, hr, hm, q⟩
  refine ⟨Nat.zero_le _, fun a na => ?_⟩
  have R : Grow M (M.put a (.lst [])) h a [] := Grow.start H leX.refl na
  have hG : ∀ M' ds, Grow M M' h a ds → (M' l = some (.lst (rows.map rowD)) ∨ M' l = some (.rol (rows.map rowD))) := fun M' ds R => .inl (R.le.1 _ _ hne hM)
  refine ⟨_, hG _ _ R, ?_⟩
  refine amt_turns g hG rows [] _ [] none none none R (by simp; omega) hr trivial (fun p h => by cases h) fun ps M1 x y z f s R1 => ?_
  have f : Fit ps rows := f
  have lps := f.len
  have z37 : ∀ p ∈ ps, Red p ∧ Sz 37 p := fun p hp => ⟨f.red p hp, s p hp⟩
  refine lsum_call g.h53 (.inr ⟨a, rfl, .inl R1.row⟩) z37 (by omega) (by decide) ?_
  have zw : Sz 229 (sumL ps) := sumL_sz z37 (by omega)
  cases most with
  | none => exact ⟨_, rfl, _, seq_ref R1.row, q ps M1 f (fun p hp => (s p hp).mono (by decide)) rfl R1.hand R1.le⟩
  | some u =>
    obtain ⟨ru, zu, pu⟩ := hm u rfl
    refine ⟨_, rfl, ?_⟩
    refine call2' g.h27 ⟨_, _, rfl, zw.mono (by decide), zu.mono (by decide), _, rfl, ?_⟩
    refine iteD (fun c => ?_) (fun c => ?_)
    · obtain ⟨b0, pt, es⟩ := scaled (fun p hp => f.red p hp) ru pu c
      have m1 := lt_mul zu.1 zw.2.1
      have m2 := lt_mul zu.2.1 zw.1
      refine ⟨.int u.1, rfl, .int (sumL ps).2, rfl, mulB_of zu.1 zw.2.1 (by decide) (by decide) (by decide), .int u.2, rfl, .int (sumL ps).1, rfl, mulB_of zu.2.1 zw.1 (by decide) (by decide) (by decide), ?_⟩
      refine ratio_call g.h23 (by omega) (Nat.lt_trans (log2_lt m2 (by decide)) (by decide)) ?_
      have zt : Sz 420 (lowP (u.1 * (sumL ps).2) (u.2 * (sumL ps).1)) := sz_low m1 m2 b0
      generalize lowP (u.1 * (sumL ps).2) (u.2 * (sumL ps).1) = t at pt es zt ⊢
      refine ⟨_, .inl R1.row, fun p np => ?_⟩
      refine compL_map (M := M1) (scF t) (fun acc => .inl ((put_le np) _ _ R1.row)) _ [] _ (fun e he acc K hK => ?_) (by simp; omega) ?_
      · obtain ⟨r, h1, rfl⟩ := List.mem_map.mp he
        exact call2' g.h26 ⟨_, _, rfl, (s r h1).mono (by decide), zt.mono (by decide), hK⟩
      · rw [List.nil_append, sc_map]
        refine ⟨_, seq_ref Mm.put_same, q _ _ (f.part pt fun r h => (hr r h).2.1) (fun p' hp' => ?_) ?_ (R1.hand.new np) (R1.le.trans (leX.of (put_le np)))⟩
        · obtain ⟨r, h1, rfl⟩ := List.mem_map.mp hp'
          exact (mulP_sz (s r h1) zt).mono (by decide)
        · rw [es]
          exact decide_eq_false (by rw [cmp_self]; decide)
    · exact ⟨_, seq_ref R1.row, q ps M1 f (fun p hp => (s p hp).mono (by decide)) (decide_eq_false c) R1.hand R1.le⟩
/-! ### the law's cargo of amounts -/
def b_cof : Sms := (.cons (.set 2 (.call 24 (.cons (.var 2) (.cons (.var 5) .nil)))) (.cons (.set 3 (.call 24 (.cons (.var 3) (.cons (.call 26 (.cons (.var 5) (.cons (.ix (.ix (.var 0) (.var 4)) (.int 0)) .nil))) .nil)))) .nil))
structure CofG (Γ : Gm) : Prop where
  h24 : Γ.gv 24 = .fn 2 sp_plus []
  h26 : Γ.gv 26 = .fn 2 sp_times []
theorem cof_turns {Γ : Gm} (g : CofG Γ) {M : Mm} {G : Mm → Prop} (hG : G M) {l : Addr} {rows : List RR} (hM : M l = some (.lst (rows.map rowD))) (hrow : RowsOk rows) {d : Option D} {K : KE} : ∀ (ps : List (Int × Int)) (k n m : Nat) (w t : Int × Int) (x y : Option D), k + ps.length ≤ rows.length → Sz n w → Sz m t → (∀ p ∈ ps, Sz 460 p) → n + 461 * ps.length ≤ 3000 → m + 491 * ps.length ≤ 3000 →
    (∀ x y, K.nx [some (.ref l), d, some (rt (ps.foldl sumP w)), some (rt ((moms ps (rows.drop k)).foldl sumP t)), x, y] M) → forD G (.tup (.cons (.nm 4) (.cons (.nm 5) .nil))) (evSs Γ b_cof) K (enmD k (ps.map rt)) [some (.ref l), d, some (rt w), some (rt t), x, y] M
  | [], k, n, m, w, t, x, y, _, _, _, _, _, _, q => ⟨hG, q x y⟩
  | p :: ps, k, n, m, w, t, x, y, hk, hw, ht, hp, hn, hm, q => by
    rw [List.length_cons] at hk hn hm
    have kl : k < rows.length := by omega
    have sp := hp p List.mem_cons_self
    obtain ⟨r1, r2, r3, r4⟩ := hrow.2 rows[k] (List.getElem_mem kl)
    have hat : atI (rows.map rowD) ((k : Nat) : Int) = some (rowD rows[k]) := atI_get rfl (by rw [List.getElem?_map, List.getElem?_eq_getElem kl]; rfl)
    refine ⟨hG, ?_⟩
    refine call2' g.h24 ⟨w, p, rfl, hw.mono (by omega), sp.mono (by decide), ?_⟩
    refine ⟨_, .inl hM, _, hat, rt rows[k].1, rfl, ?_⟩
    refine call2' g.h26 ⟨p, rows[k].1, rfl, sp.mono (by decide), r2.mono (by decide), ?_⟩
    refine call2' g.h24 ⟨t, _, rfl, ht.mono (by omega), (mulP_sz sp r2).mono (by decide), ?_⟩
    have e : rows.drop k = rows[k] :: rows.drop (k + 1) := List.drop_eq_getElem_cons kl
    rw [e] at q
    exact cof_turns g hG hM hrow ps (k + 1) _ _ _ _ _ _ (by omega) (sumP_sz hw sp) (sumP_sz ht (mulP_sz sp r2)) (fun q hq => hp q (List.mem_cons_of_mem _ hq)) (by omega) (by omega) q
def sp_law_cargo_of27 : DSp := fun ds M _ Q => ∃ l d ps rows, ds = [.ref l, d] ∧ M l = some (.lst (rows.map rowD)) ∧ RowsOk rows ∧ Row M d ps ∧ ps.length ≤ rows.length ∧ (∀ p ∈ ps, Sz 460 p) ∧ Q (.tup [rt (sumL ps), rt (sumL (moms ps rows))]) M
theorem pure_law_cargo_of27 {Γ : Gm} (g : CofG Γ) : ∀ ds M E Q, ds.length = 2 → sp_law_cargo_of27 ds M E Q → bodyD Γ 6 m_law_cargo_of27 ds M E Q := by
  rintro ds M E Q hl ⟨l, d, ps, rows, rfl, hM, hR, hd, hl, hp, q⟩
  have r6 := hR.1
  refine ⟨by rw [sizeLine_eq]; show 2 ≤ _; decide, by rw [sizeLine_eq]; show 2 ≤ _; decide, by rw [sizeLine_eq]; show 2 ≤ _; decide, ?_⟩
  have fin : ∀ x y, evSs Γ (.cons (.ret (.tup (.cons (.var 2) (.cons (.var 3) .nil)))) .nil) [some (.ref l), some d, some (rt (ps.foldl sumP (0, 1))), some (rt ((moms ps (rows.drop 0)).foldl sumP (0, 1))), x, y] M { nx := fun _ M' => Q .non M', rt := Q, ex := fun x _ M' => E x M' } := fun x y => ⟨by rw [sizeLine_eq]; show 2 ≤ _; decide, q⟩
  rcases hd with rfl | ⟨a, rfl, h⟩
  · exact cof_turns g (G := fun _ => True) trivial hM hR ps 0 1 1 (0, 1) (0, 1) none none (by omega) sz01' sz01' hp (by omega) (by omega) fin
  · exact ⟨_, h, cof_turns g (G := fun M => M a = some (.lst (ps.map rt)) ∨ M a = some (.rol (ps.map rt))) h hM hR ps 0 1 1 (0, 1) (0, 1) none none (by omega) sz01' sz01' hp (by omega) (by omega) fin⟩
end LW
namespace LW
open PySem PySem.Spec L2 DL
/-! ### the law's own judges -/
def b_pt : Sms := (.cons (.ifs (.bop .Or (.cons (.not (.val (.bi .isi (.cons (.var 1) (.cons (.tyn .int) .nil))))) (.cons (.val (.bi .isi (.cons (.var 1) (.cons (.tyn .bool) .nil)))) .nil))) (.cons (.ret (.bl false)) .nil) .nil) .nil)
theorem ev_pt {Γ : Gm} {M : Mm} {d : Option D} {z : D} {K : KE} (tz : Tyd M z) (q : if whP z .non .non = true then K.nx [d, some z] M else K.rt (.bl false) M) : evSs Γ b_pt [d, some z] M K := by
  obtain ⟨t, ht⟩ := tz
  refine ⟨_, isi_int ht, _, rfl, ?_⟩
  rcases ty_int ht with ⟨i, rfl⟩ | ⟨b, rfl⟩ | ⟨n1, n2, hw⟩
  · cases ht
    refine ⟨_, isi_bool (M := M) (d := .int i) rfl, _, rfl, ?_⟩
    exact iteF q
  · cases ht
    refine ⟨_, isi_bool (M := M) (d := .bl b) rfl, _, rfl, ?_⟩
    exact iteT q
  · have e1 : t.sub .int = false := by cases t <;> first | rfl | exact absurd rfl n1 | exact absurd rfl n2
    rw [e1]
    rw [hw] at q
    exact iteT q
theorem pure_law_is_ratio2 {Γ : Gm} (hΓ : Γ.gv 22 = .fn 2 sp_law_gcd []) : ∀ ds M E Q, ds.length = 1 → sp_is_ratio ds M E Q → bodyD Γ 2 m_law_is_ratio2 ds M E Q := by
  rintro ds M E Q hl ⟨d, rfl, ⟨t, ht⟩, hxy, q⟩
  refine ⟨_, isi_tuple ht, _, rfl, ?_⟩
  by_cases c : t = .tuple
  · subst c
    have hd : ∃ xs, d = .tup xs := by
      cases d with
      | tup xs => exact ⟨xs, rfl⟩
      | ref a => cases ty_ref ht
      | _ => cases ht
    obtain ⟨xs, rfl⟩ := hd
    refine ⟨xs, rfl, _, rfl, ?_⟩
    rw [eqv_int]
    by_cases c2 : xs.length = 2
    · rw [decide_eq_true (show (xs.length : Int) = 2 by omega)]
      refine iteF ?_
      match xs, c2 with
      | [x, y], _ =>
        obtain ⟨tx, ty⟩ := hxy x y rfl
        have e : ratP (.tup [x, y]) = (whP x .non .non && (whP y (.int 1) .non && gcd1 x y)) := rfl
        rw [e] at q
        refine ⟨trivial, ev_pt tx ?_⟩
        cases hx : whP x .non .non with
        | false => rw [hx] at q; exact q
        | true =>
          rw [hx, Bool.true_and] at q
          refine ⟨trivial, ev_pt ty ?_⟩
          cases hy : whP y .non .non with
          | false =>
            have : whP y (.int 1) .non = false := by
              cases y <;> first | rfl | (simp [whP] at hy)
            rw [this] at q
            exact q
          | true =>
            obtain ⟨a, rfl⟩ := wh_int hx
            obtain ⟨b, rfl⟩ := wh_int hy
            have e2 : whP (.int b) (.int 1) .non = decide (0 < b) := by
              simp only [whP, Bool.and_true]
              rw [decide_eq_decide]
              omega
            rw [e2] at q
            refine ⟨trivial, .int b, rfl, _, rfl, ?_⟩
            by_cases c3 : 0 < b
            · rw [decide_eq_true c3] at q ⊢
              refine ⟨.int a, rfl, .int b, rfl, lgcd_call hΓ ⟨_, rfl, ?_⟩⟩
              rw [eqv_int]
              exact q
            · rw [decide_eq_false c3] at q ⊢
              exact q
    · rw [decide_eq_false (show ¬ (xs.length : Int) = 2 by omega)]
      refine iteT ?_
      have e : ratP (.tup xs) = false := by
        match xs, c2 with
        | [], _ => rfl
        | [_], _ => rfl
        | [_, _], h => exact absurd rfl h
        | _ :: _ :: _ :: _, _ => rfl
      rw [e] at q
      exact q
  · have e1 : t.sub .tuple = false := by cases t <;> first | rfl | exact absurd rfl c
    rw [e1]
    refine iteT ?_
    have e : ratP d = false := by
      cases d with
      | tup xs => cases ht; exact absurd rfl c
      | _ => rfl
    rw [e] at q
    exact q
theorem rat30 {Γ : Gm} (hΓ : Γ.gv 30 = .fn 1 sp_is_ratio []) {d : D} {M : Mm} {E : EK} {Q : QD} (h : Cmp M d) (q : Q (.bl (ratO d).isSome) M) : callD (Γ.gv 30) 1 [d] M E Q := by
  refine call1' hΓ ⟨d, rfl, h.1, h.2, ?_⟩
  rw [ratO_P]
  exact q
def b_due : Sms := (.cons (.ifs (.bop .Or (.cons (.not (.val (.call 30 (.cons (.var 5) .nil)))) (.cons (.cmp .Lt (.ix (.var 5) (.int 0)) (.int 0)) .nil))) (.cons (.ret (.str "amount")) .nil) .nil) (.cons (.ifs (.cmp .Gt (.call 27 (.cons (.var 5) (.cons (.ix (.ix (.var 0) (.var 4)) (.int 1)) .nil))) (.int 0)) (.cons (.ret (.str "slot")) .nil) .nil) .nil))
def e_due : Sms := (.cons (.set 6 (.call 55 (.cons (.var 0) (.cons (.var 2) .nil)))) (.cons (.ifs (.bop .And (.cons (.cmp .IsNot (.var 1) .non) (.cons (.cmp .Gt (.call 27 (.cons (.ix (.var 6) (.int 0)) (.cons (.var 1) .nil))) (.int 0)) .nil))) (.cons (.ret (.str "most")) .nil) .nil) (.cons (.ifs (.cmp .NotEq (.ix (.var 6) (.int 0)) (.ix (.var 3) (.int 0))) (.cons (.ret (.str "weight")) .nil) .nil) (.cons (.ret (.ite (.cmp .Eq (.ix (.var 6) (.int 1)) (.ix (.var 3) (.int 1))) .non (.str "moment"))) .nil))))
structure DueG (Γ : Gm) : Prop where
  h27 : Γ.gv 27 = .fn 2 sp_compare []
  h30 : Γ.gv 30 = .fn 1 sp_is_ratio []
  h55 : Γ.gv 55 = .fn 2 sp_law_cargo_of27 []
theorem due_turns {Γ : Gm} (g : DueG Γ) {M : Mm} {G : Mm → Prop} (hG : G M) {l : Addr} {rows : List RR} (hM : M l = some (.lst (rows.map rowD))) (hR : ∀ r ∈ rows, Red r.1 ∧ Sz 30 r.1 ∧ Red r.2 ∧ Sz 30 r.2) {b c d z : Option D} {K : KE} : ∀ (xs : List D) (k : Nat) (x y : Option D), (∀ x ∈ xs, Item M x) → k + xs.length ≤ rows.length →
    (match firstF xs (rows.drop k) with
      | some v => K.rt (.str v) M
      | none => ∀ x y, K.nx [some (.ref l), b, c, d, x, y, z] M) → forD G (.tup (.cons (.nm 4) (.cons (.nm 5) .nil))) (evSs Γ b_due) K (enmD k xs) [some (.ref l), b, c, d, x, y, z] M
  | [], k, x, y, _, _, q => ⟨hG, by
    have : firstF [] (rows.drop k) = none := by unfold firstF; rfl
    rw [this] at q
    exact q x y⟩
  | v :: xs, k, x, y, hx, hk, q => by
    rw [List.length_cons] at hk
    have kl : k < rows.length := by omega
    have e : rows.drop k = rows[k] :: rows.drop (k + 1) := List.drop_eq_getElem_cons kl
    have hat : atI (rows.map rowD) ((k : Nat) : Int) = some (rowD rows[k]) := atI_get rfl (by rw [List.getElem?_map, List.getElem?_eq_getElem kl]; rfl)
    obtain ⟨r1, r2, r3, r4⟩ := hR rows[k] (List.getElem_mem kl)
    obtain ⟨hc, hs⟩ := hx v List.mem_cons_self
    rw [e] at q
    simp only [firstF] at q
    refine ⟨hG, ?_⟩
    refine rat30 g.h30 hc ⟨_, rfl, ?_⟩
    cases e2 : ratO v with
    | none =>
      rw [e2] at q
      exact iteT q
    | some p =>
      rw [e2] at q
      obtain ⟨rfl, rp⟩ := ratO_some e2
      refine ⟨.int p.1, rfl, _, rfl, ?_⟩
      refine iteD (fun c1 => ?_) (fun c1 => ?_)
      · simp only [c1, if_true] at q
        exact q
      · simp only [c1, if_false] at q
        refine ⟨_, .inl hM, _, hat, rt rows[k].2, rfl, ?_⟩
        refine call2' g.h27 ⟨_, _, rfl, (hs p e2).mono (by decide), r4.mono (by decide), _, rfl, ?_⟩
        refine iteD (fun c2 => ?_) (fun c2 => ?_)
        · simp only [c2, if_true] at q
          exact q
        · simp only [c2, if_false] at q
          exact due_turns g hG hM hR xs (k + 1) _ _ (fun x h => hx x (List.mem_cons_of_mem _ h)) (by omega) q
def sp_law_due27 : DSp := fun ds M _ Q => ∃ l most d am w m rows, ds = [.ref l, optD most, d, .tup [rt w, rt m]] ∧ M l = some (.lst (rows.map rowD)) ∧ RowsOk rows ∧ (∀ q, most = some q → Sz 3000 q) ∧ Amt M d am ∧ Q (resD (faultS rows most am w m)) M
theorem pure_law_due27 {Γ : Gm} (g : DueG Γ) : ∀ ds M E Q, ds.length = 4 → sp_law_due27 ds M E Q → bodyD Γ 7 m_law_due27 ds M E Q := by
  rintro ds M E Q hl ⟨l, most, d, am, w, m, rows, rfl, hM, hR, hq, hA, q⟩
  have r6 := hR.1
  refine ⟨by rw [sizeLine_eq]; show 2 ≤ _; decide, _, isi_am hA.1, _, rfl, ?_⟩
  cases am with
  | none => exact iteT q
  | some xs =>
    obtain ⟨hl, hx⟩ := hA.2 xs rfl
    have fin : ∀ x y, xs.length = rows.length → firstF xs rows = none → evSs Γ e_due [some (.ref l), some (optD most), some d, some (.tup [rt w, rt m]), x, y, none] M { nx := fun _ M' => Q .non M', rt := Q, ex := fun x _ M' => E x M' } := fun x y cc hn => by
      obtain ⟨ps, hp, hp0⟩ := firstF_none cc hn
      simp only [faultS, cc, ne_eq, not_true_eq_false, if_false, hn, hp] at q
      obtain ⟨rfl, red, szs⟩ := ratsO_some hp
      have sz := szs 460 fun x hx' => (hx x hx').2
      rw [List.length_map] at cc
      have row : Row M d ps := by
        rcases hA.1 with h | ⟨a, h1, h2⟩
        · exact .inl h
        · exact .inr ⟨a, h1, h2⟩
      have zS : Sz 3000 (sumL ps) := (sumL_sz (k := 460) (fun p h => ⟨red p h, sz p h⟩) (by omega)).mono (by decide)
      refine call2' g.h55 ⟨l, d, ps, rows, rfl, hM, hR, row, by omega, sz, ?_⟩
      have last : overM most (sumL ps) = false → evSs Γ (.cons (.ifs (.cmp .NotEq (.ix (.var 6) (.int 0)) (.ix (.var 3) (.int 0))) (.cons (.ret (.str "weight")) .nil) .nil) (.cons (.ret (.ite (.cmp .Eq (.ix (.var 6) (.int 1)) (.ix (.var 3) (.int 1))) .non (.str "moment"))) .nil)) [some (.ref l), some (optD most), some d, some (.tup [rt w, rt m]), x, y, some (.tup [rt (sumL ps), rt (sumL (moms ps rows))])] M { nx := fun _ M' => Q .non M', rt := Q, ex := fun x _ M' => E x M' } := fun hm => by
        unfold endF at q
        rw [hm, if_neg Bool.false_ne_true] at q
        refine ⟨rt (sumL ps), rfl, rt w, rfl, _, ne_rt2 _ _, ?_⟩
        by_cases c1 : sumL ps = w
        · rw [decide_eq_true c1]
          rw [if_pos c1] at q
          refine iteF ⟨rt (sumL (moms ps rows)), rfl, rt m, rfl, _, eq_rt2 _ _, ?_⟩
          by_cases c2 : sumL (moms ps rows) = m
          · rw [decide_eq_true c2]
            rw [if_pos c2] at q
            exact q
          · rw [decide_eq_false c2]
            rw [if_neg c2] at q
            exact q
        · rw [decide_eq_false c1]
          rw [if_neg c1] at q
          exact iteT q
      cases most with
      | none => exact ⟨_, rfl, last rfl⟩
      | some u =>
        refine ⟨_, rfl, rt (sumL ps), rfl, ?_⟩
        refine call2' g.h27 ⟨_, _, rfl, zS, hq u rfl, _, rfl, ?_⟩
        refine iteD (fun c1 => ?_) (fun c1 => ?_)
        · have c1' : overM (some u) (sumL ps) = true := decide_eq_true c1
          unfold endF at q
          rw [if_pos c1'] at q
          exact q
        · exact last (decide_eq_false c1)
    have loop : ∀ G : Mm → Prop, G M → xs.length = rows.length → forD G (.tup (.cons (.nm 4) (.cons (.nm 5) .nil))) (evSs Γ b_due) { nx := fun ρ1 M1 => evSs Γ e_due ρ1 M1 { nx := fun _ M' => Q .non M', rt := Q, ex := fun x _ M' => E x M' }, rt := Q, ex := fun x _ M' => E x M' } (enmD 0 xs) [some (.ref l), some (optD most), some d, some (.tup [rt w, rt m]), none, none, none] M := fun G hG cc => by
      refine due_turns g hG hM hR.2 xs 0 none none hx (by omega) ?_
      rw [List.drop_zero]
      cases cf : firstF xs rows with
      | some v =>
        simp only [faultS, cc, ne_eq, not_true_eq_false, if_false, cf] at q
        exact q
      | none => exact fun x y => fin x y cc cf
    have eqq : ∀ cc : ¬ xs.length = rows.length, Q (.str "length") M := fun cc => by
      simp only [faultS, cc, ne_eq, not_false_eq_true, if_true] at q
      exact q
    have A := hA.1
    rcases A with e1 | ⟨a, e1, h⟩
    · subst e1
      refine ⟨xs, rfl, _, seq_ref hM, _, rfl, ?_⟩
      rw [eqv_int, List.length_map]
      by_cases cc : xs.length = rows.length
      · rw [decide_eq_true (show (xs.length : Int) = (rows.length : Int) by omega)]
        exact iteF (loop _ trivial cc)
      · rw [decide_eq_false (show ¬ (xs.length : Int) = (rows.length : Int) by omega)]
        exact iteT (eqq cc)
    · subst e1
      refine ⟨xs, am_seq (.inr ⟨a, rfl, h⟩), _, seq_ref hM, _, rfl, ?_⟩
      rw [eqv_int, List.length_map]
      by_cases cc : xs.length = rows.length
      · rw [decide_eq_true (show (xs.length : Int) = (rows.length : Int) by omega)]
        exact iteF ⟨_, h, loop _ h cc⟩
      · rw [decide_eq_false (show ¬ (xs.length : Int) = (rows.length : Int) by omega)]
        exact iteT (eqq cc)
end LW
namespace LW
open PySem PySem.Spec L2 DL
theorem toPys_some {f : D → Option PyData} : ∀ {xs : List D}, (∀ x ∈ xs, (f x).isSome = true) → ∃ ps, toPys f xs = some ps ∧ ps.length = xs.length
  | [], _ => ⟨[], rfl, rfl⟩
  | x :: xs, h => by
    have h1 := h x List.mem_cons_self
    obtain ⟨ps, e, l⟩ := toPys_some fun y hy => h y (List.mem_cons_of_mem _ hy)
    cases c : f x with
    | none => rw [c] at h1; cases h1
    | some p => exact ⟨p :: ps, by unfold toPys; rw [c, e], by simp [l]⟩
theorem compL_filter {G : Mm → Prop} {p : Addr} {step : D → Mm → (Option D → Mm → Prop) → Prop} {M : Mm} (f : D → Bool) (hG : ∀ acc, G (M.put p (.lst acc))) : ∀ (I acc : List D) (Q : Mm → Prop), (∀ d ∈ I, ∀ acc (K : Option D → Mm → Prop), (if f d = true then K (some d) (M.put p (.lst acc)) else K none (M.put p (.lst acc))) → step d (M.put p (.lst acc)) K) → acc.length + I.length ≤ 100000 → Q (M.put p (.lst (acc ++ I.filter f))) → compL G p step I acc (M.put p (.lst acc)) Q
  | [], acc, Q, _, _, q => ⟨hG acc, Mm.put_same, by simpa using q⟩
  | d :: I, acc, Q, hs, hl, q => by
    rw [List.length_cons] at hl
    refine ⟨hG acc, hs d List.mem_cons_self acc _ ?_⟩
    by_cases c : f d = true
    · rw [if_pos c]
      refine ⟨Mm.put_same, ?_, ?_⟩
      · have : sizeLine ≥ 100000 := by rw [sizeLine_eq]; decide
        omega
      · rw [put_put]
        refine compL_filter f hG I (acc ++ [d]) Q (fun e he => hs e (List.mem_cons_of_mem _ he)) ?_ (by rw [List.filter_cons_of_pos c] at q; simpa using q)
        simp
        omega
    · rw [if_neg c]
      exact compL_filter f hG I acc Q (fun e he => hs e (List.mem_cons_of_mem _ he)) (by omega) (by rw [List.filter_cons_of_neg c] at q; exact q)
theorem filter_rat : ∀ xs : List D, (xs.filter fun x => !ratP x).isEmpty = (ratsO xs).isSome
  | [] => rfl
  | x :: xs => by
    rw [ratsO_cons]
    have ih := filter_rat xs
    cases c : ratO x with
    | none =>
      have e : (!ratP x) = true := by rw [ratO_P, c]; rfl
      rw [List.filter_cons_of_pos (p := fun x => !ratP x) e]
      rfl
    | some p =>
      have e : ¬ (!ratP x) = true := by rw [ratO_P, c]; exact Bool.false_ne_true
      rw [List.filter_cons_of_neg (p := fun x => !ratP x) e, ih]
      cases ratsO xs <;> rfl
theorem ne_nil {M : Mm} {p q : Addr} {F : List D} (hp : M p = some (.lst F)) (hq : M q = some (.lst [])) (h : ∀ x ∈ F, (toPy M 8 x).isSome = true) : cmpD M .NotEq (.ref p) (.ref q) = some (!F.isEmpty) := by
  obtain ⟨ps, e, l⟩ := toPys_some h
  have e1 : toPy M 9 (.ref p) = some (.list ps) := by
    show (match M p with
      | some (.lst ds) => (match toPys (toPy M 8) ds with | some ps => some (PyData.list ps) | none => none)
      | some (.rol ds) => (match toPys (toPy M 8) ds with | some ps => some (PyData.list ps) | none => none)
      | _ => none) = _
    rw [hp]
    simp only [e]
  have e2 : toPy M 9 (.ref q) = some (.list []) := by
    show (match M q with
      | some (.lst ds) => (match toPys (toPy M 8) ds with | some ps => some (PyData.list ps) | none => none)
      | some (.rol ds) => (match toPys (toPy M 8) ds with | some ps => some (PyData.list ps) | none => none)
      | _ => none) = _
    rw [hq]
    rfl
  show (match toPy M 9 (.ref p), toPy M 9 (.ref q) with | some p, some q => some (!PyData.eqv p q) | _, _ => none) = _
  rw [e1, e2]
  cases F with
  | nil =>
    have : ps = [] := List.length_eq_zero_iff.mp l
    subst this
    rfl
  | cons x xs =>
    cases ps with
    | nil => cases l
    | cons p ps => simp [PyData.eqv, PyData.eqvAll]
def MadeR (rows : List RR) (am : Option (List D)) (M : Mm) (Q : QD) : Prop := match byW rows.length am with
  | some w => ∀ M', M.le M' → Q (.str w) M'
  | none => ∀ xs ps M', am = some xs → ratsO xs = some ps → M.le M' → Q (.tup [rt (sumL ps), rt (sumL (moms ps rows))]) M'
def sp_law_made_due27 : DSp := fun ds M _ Q => ∃ l d am rows, ds = [.ref l, d] ∧ M l = some (.lst (rows.map rowD)) ∧ RowsOk rows ∧ Amt M d am ∧ (∀ xs, am = some xs → ∀ x ∈ xs, ∀ M', M.le M' → (toPy M' 8 x).isSome = true) ∧ MadeR rows am M Q
theorem pure_law_made_due27 {Γ : Gm} (g : DueG Γ) : ∀ ds M E Q, ds.length = 2 → sp_law_made_due27 ds M E Q → bodyD Γ 3 m_law_made_due27 ds M E Q := by
  rintro ds M E Q hl ⟨l, d, am, rows, rfl, hM, hR, hA, hT, q⟩
  unfold MadeR at q
  have r6 := hR.1
  refine ⟨by rw [sizeLine_eq]; show 2 ≤ _; decide, _, isi_am hA.1, _, rfl, ?_⟩
  cases am with
  | none => exact iteT (q M (Mm.le_refl M))
  | some xs =>
    obtain ⟨hl, hx⟩ := hA.2 xs rfl
    have eqq : ∀ cc : ¬ xs.length = rows.length, Q (.str "length") M := fun cc => by
      simp only [byW, cc, ne_eq, not_false_eq_true, if_true] at q
      exact q M (Mm.le_refl M)
    have key : ∀ G : Mm → Prop, (∀ M', Am M' d (some xs) → G M') → ∀ p, M p = none → ∀ T : Mm → Prop, T (M.put p (.lst (xs.filter fun x => !ratP x))) → compL G p (fun dd M2 K => tgD (.nm 2) dd (wipeD [some (.ref l), some d, none] [2]) fun ρ2 => evC Γ (.some (.not (.val (.call 30 (.cons (.var 2) .nil))))) ρ2 M2 E0 fun b M3 => if b = true then evE Γ (.var 2) ρ2 M3 E0 (fun x M4 => K (some x) M4) else K none M3) xs [] (M.put p (.lst [])) T := fun G hG p np T hT => by
      refine compL_filter (M := M) (fun x => !ratP x) (fun acc => hG _ (hA.1.le (put_le np))) xs [] T (fun e he acc K hK => ?_) (by simp; omega) hT
      have hc := (hx e he).1.le (put_le (o := .lst acc) np)
      refine rat30 g.h30 hc ⟨_, rfl, ?_⟩
      rw [← ratO_P]
      exact hK
    have aft : xs.length = rows.length → ∀ p, M p = none → evE Γ (.lst .nil) [some (.ref l), some d, none] (M.put p (.lst (xs.filter fun x => !ratP x))) (fun x _ => E x (M.put p (.lst (xs.filter fun x => !ratP x)))) fun y M2 => ∃ c, cmpD M2 .NotEq (.ref p) y = some c ∧ if c = true then Q (.str "amount") M2 else callD (Γ.gv 55) 2 [.ref l, d] M2 E Q := fun cc p np => by
      have l1 := put_le (o := .lst (xs.filter fun x => !ratP x)) np
      refine ⟨Nat.zero_le _, fun p2 np2 => ?_⟩
      have l2 := put_le (o := .lst ([] : List D)) np2
      have l3 := Mm.le_trans l1 l2
      refine ⟨_, ne_nil (l2 _ _ Mm.put_same) Mm.put_same (fun x h => hT xs rfl x (List.mem_filter.mp h).1 _ l3), ?_⟩
      rw [filter_rat]
      simp only [byW, cc, ne_eq, not_true_eq_false, if_false] at q
      cases e : ratsO xs with
      | none =>
        rw [e] at q
        exact iteT (q _ l3)
      | some ps =>
        rw [e] at q
        refine iteF ?_
        obtain ⟨rfl, red, szs⟩ := ratsO_some e
        have sz := szs 460 fun x hx' => (hx x hx').2
        have row : Row ((M.put p (.lst ((ps.map rt).filter fun x => !ratP x))).put p2 (.lst [])) d ps := by
          rcases hA.1.le l3 with h | ⟨a, h1, h2⟩
          · exact .inl h
          · exact .inr ⟨a, h1, h2⟩
        rw [List.length_map] at cc
        exact call2' g.h55 ⟨l, d, ps, rows, rfl, l3 _ _ hM, hR, row, by omega, sz, q _ ps _ rfl e l3⟩
    have A := hA.1
    rcases A with e1 | ⟨a, e1, h⟩
    · subst e1
      refine ⟨xs, rfl, _, seq_ref hM, _, rfl, ?_⟩
      rw [eqv_int, List.length_map]
      by_cases cc : xs.length = rows.length
      · rw [decide_eq_true (show (xs.length : Int) = (rows.length : Int) by omega)]
        refine iteF fun p np => ?_
        exact key (fun _ => True) (fun _ _ => trivial) p np _ (aft cc p np)
      · rw [decide_eq_false (show ¬ (xs.length : Int) = (rows.length : Int) by omega)]
        exact iteT (eqq cc)
    · subst e1
      refine ⟨xs, am_seq (.inr ⟨a, rfl, h⟩), _, seq_ref hM, _, rfl, ?_⟩
      rw [eqv_int, List.length_map]
      by_cases cc : xs.length = rows.length
      · rw [decide_eq_true (show (xs.length : Int) = (rows.length : Int) by omega)]
        refine iteF ⟨_, h, fun p np => ?_⟩
        exact key _ (fun M' h' => by
          rcases h' with h' | ⟨b, e, h'⟩
          · cases h'
          · cases e; exact h') p np _ (aft cc p np)
      · rw [decide_eq_false (show ¬ (xs.length : Int) = (rows.length : Int) by omega)]
        exact iteT (eqq cc)
/-! ### errors caught -/
structure CatG (Γ : Gm) (CS CA CC : Addr) : Prop where
  h39 : Γ.gv 39 = .err CC ["what"] [0]
  h41 : Γ.gv 41 = .err CA ["what"] [0]
  h47 : Γ.gv 47 = .fn 2 (sp_cargo_by CS CA) []
  h48 : Γ.gv 48 = .fn 3 (sp_stowage_fault CS CC) []
  sC : Γ.sub CC CC = some true
  sA : Γ.sub CA CA = some true
  xC : Γ.xfl CC "what"
  xA : Γ.xfl CA "what"
theorem call3' {Γ : Gm} {g : Nat} {sp : DSp} {d e f : D} {M : Mm} {E : EK} {Q : QD} (hΓ : Γ.gv g = .fn 3 sp []) (h : sp [d, e, f] M E Q) : callD (Γ.gv g) 3 [d, e, f] M E Q := by
  rw [hΓ]
  exact ⟨Nat.le_refl _, Nat.le_refl _, rfl, h⟩
theorem call4' {Γ : Gm} {g : Nat} {sp : DSp} {d e f i : D} {M : Mm} {E : EK} {Q : QD} (hΓ : Γ.gv g = .fn 4 sp []) (h : sp [d, e, f, i] M E Q) : callD (Γ.gv g) 4 [d, e, f, i] M E Q := by
  rw [hΓ]
  exact ⟨Nat.le_refl _, Nat.le_refl _, rfl, h⟩
def sp_law_made_by27 (CS : Addr) : DSp := fun ds M _ Q => ∃ s d am rows m, ds = [.ref s, d] ∧ SlotsAt CS M s (rows.map rowD) m ∧ RowsOk rows ∧ Amt M d am ∧ MadeR rows am M Q
theorem pure_law_made_by27 {Γ : Gm} {CS CA CC : Addr} (g : CatG Γ CS CA CC) : ∀ ds M E Q, ds.length = 2 → sp_law_made_by27 CS ds M E Q → bodyD Γ 3 m_law_made_by27 ds M E Q := by
  rintro ds M E Q hl ⟨s, d, am, rows, m, rfl, hS, hR, hA, q⟩
  refine call2' g.h47 ⟨s, d, am, rows, m, rfl, hS, hR, hA, ?_⟩
  unfold MadeR at q
  cases e : byW rows.length am with
  | none => rw [e] at q; exact q
  | some w =>
    rw [e] at q
    intro M1 l1 dd nd
    refine ⟨CA, true, by rw [g.h41]; rfl, g.sA, fun _ a na => ?_, fun z => by cases z⟩
    refine ⟨rfl, g.xA, _, .str w, Mm.put_same, rfl, ?_⟩
    exact q _ (Mm.le_trans l1 (put_le nd))
def sp_law_fault27 (CS : Addr) : DSp := fun ds M E Q => ∃ s d am c cm rows most, ds = [.ref s, d, c] ∧ SlotsAt CS M s (rows.map rowD) (optD most) ∧ RowsOk rows ∧ (∀ q, most = some q → Sz 3000 q) ∧ Amt M d am ∧ Am M c cm ∧ (∀ xs, cm = some xs → xs.length < 100 ∧ ∀ x ∈ xs, Cmp M x ∧ Sml 3000 x) ∧
  (match cargoW cm with
  | some w => ∀ M', M.le M' → Q (.tup [.str "cargo", .str w]) M'
  | none => ∀ w m, cm = some [rt w, rt m] → ∀ M', M.le M' → Q (resD (faultS rows most am w m)) M')
theorem pure_law_fault27 {Γ : Gm} {CS CA CC : Addr} (g : CatG Γ CS CA CC) : ∀ ds M E Q, ds.length = 3 → sp_law_fault27 CS ds M E Q → bodyD Γ 4 m_law_fault27 ds M E Q := by
  rintro ds M E Q hl ⟨s, d, am, c, cm, rows, most, rfl, hS, hR, hq, hA, hC, hcx, q⟩
  refine call3' g.h48 ⟨s, d, am, c, cm, rows, most, rfl, hS, hR, hq, hA, hC, hcx, ?_⟩
  cases e : cargoW cm with
  | none => rw [e] at q; exact q
  | some w =>
    rw [e] at q
    intro dd nd
    refine ⟨CC, true, by rw [g.h39]; rfl, g.sC, fun _ a na => ?_, fun z => by cases z⟩
    refine ⟨rfl, g.xC, _, .str w, Mm.put_same, rfl, ?_⟩
    refine ⟨by rw [sizeLine_eq]; show 2 ≤ _; decide, ?_⟩
    exact q _ (put_le nd)
end LW
namespace LW
open PySem PySem.Spec L2 DL
/-! ### spoilt amounts -/
def Pur (x : D) : Prop := (∀ M, Cmp M x) ∧ Sml 460 x ∧ ∀ M, (toPy M 8 x).isSome = true
theorem pur_rt {p : Int × Int} (h : Sz 460 p) : Pur (rt p) := ⟨fun M => ⟨⟨_, rfl⟩, fun x y e => by cases e; exact ⟨⟨_, rfl⟩, ⟨_, rfl⟩⟩⟩, fun q e =>
  have e1 : rt p = rt q := (ratO_some e).1
  have : p = q := by
    obtain ⟨a, b⟩ := p
    obtain ⟨c, d⟩ := q
    cases e1
    rfl
  (by rw [← this]; exact h), fun M => rfl⟩
theorem pur_two {a b : Int} (h : ratP (.tup [.int a, .int b]) = false) : Pur (.tup [.int a, .int b]) := ⟨fun M => ⟨⟨_, rfl⟩, fun x y e => (by cases e; exact ⟨⟨_, rfl⟩, ⟨_, rfl⟩⟩)⟩, fun q e => (by rw [ratO_P, e] at h; cases h), fun M => rfl⟩
theorem pur_int (i : Int) : Pur (.int i) := ⟨fun M => ⟨⟨_, rfl⟩, fun x y e => (by cases e)⟩, fun q e => (by cases e), fun M => rfl⟩
theorem pur_non : Pur .non := ⟨fun M => ⟨⟨_, rfl⟩, fun x y e => (by cases e)⟩, fun q e => (by cases e), fun M => rfl⟩
theorem pur_str {w : Str} (h : PyData.strOk w = true) : Pur (.str w) := ⟨fun M => ⟨⟨_, rfl⟩, fun x y e => (by cases e)⟩, fun q e => (by cases e), fun M => by
  show (if PySem.PyData.strOk w then some (PyData.str w) else none).isSome = true
  rw [if_pos h]; rfl⟩
def Two : MO := .lst [.int 1, .int 2]
def OddX (M : Mm) (h : Addr) (x : D) : Prop := Pur x ∨ ∃ b, x = .ref b ∧ b ≠ h ∧ M b = some Two
def OddA (M : Mm) (h a : Addr) (x : D) : Prop := Pur x ∨ ∃ b, x = .ref b ∧ b ≠ h ∧ b ≠ a ∧ M b = some Two
theorem OddX.on {M M' : Mm} {h : Addr} {x : D} (o : OddX M h x) (e : leX h M M') : OddX M' h x := by
  rcases o with o | ⟨b, rfl, n, m⟩
  · exact .inl o
  · exact .inr ⟨b, rfl, n, e.1 _ _ n m⟩
theorem OddA.on {M M' : Mm} {h a : Addr} {x : D} (o : OddA M h a x) (e : leX h M M') : OddA M' h a x := by
  rcases o with o | ⟨b, rfl, n, n2, m⟩
  · exact .inl o
  · exact .inr ⟨b, rfl, n, n2, e.1 _ _ n m⟩
theorem OddA.put {M : Mm} {h a : Addr} {x : D} {o' : MO} (o : OddA M h a x) : OddA (M.put a o') h a x := by
  rcases o with o | ⟨b, rfl, n, n2, m⟩
  · exact .inl o
  · exact .inr ⟨b, rfl, n, n2, by rw [Mm.put_ne n2]; exact m⟩
theorem OddA.x {M : Mm} {h a : Addr} {x : D} (o : OddA M h a x) : OddX M h x := by
  rcases o with o | ⟨b, rfl, n, n2, m⟩
  · exact .inl o
  · exact .inr ⟨b, rfl, n, m⟩
theorem OddX.item {M : Mm} {h : Addr} {x : D} (o : OddX M h x) : Item M x := by
  rcases o with o | ⟨b, rfl, n, m⟩
  · exact ⟨o.1 M, o.2.1⟩
  · exact ⟨⟨⟨.list, by simp only [Ty.of, m, Two]⟩, fun x y e => (by cases e)⟩, fun q e => (by cases e)⟩
theorem OddX.py {M M' : Mm} {h : Addr} {x : D} (o : OddX M h x) (l : M.le M') : (toPy M' 8 x).isSome = true := by
  rcases o with o | ⟨b, rfl, n, m⟩
  · exact o.2.2 M'
  · show (match M' b with
      | some (.lst ds) => (match toPys (toPy M' 7) ds with | some ps => some (PyData.list ps) | none => none)
      | some (.rol ds) => (match toPys (toPy M' 7) ds with | some ps => some (PyData.list ps) | none => none)
      | _ => none).isSome = true
    rw [l _ _ m]
    rfl
def OddT (M : Mm) (h : Addr) (d : D) (am : Option (List D)) : Prop := match am with
  | some xs => (d = .tup xs ∨ ∃ a, d = .ref a ∧ a ≠ h ∧ M a = some (.lst xs)) ∧ xs.length < 100 ∧ ∀ x ∈ xs, OddX M h x
  | none => d = .non ∨ (∃ b, d = .bl b) ∨ (∃ i, d = .int i) ∨ ∃ s, d = .str s
theorem OddT.on {M M' : Mm} {h : Addr} {d : D} {am : Option (List D)} (o : OddT M h d am) (e : leX h M M') : OddT M' h d am := by
  cases am with
  | none => exact o
  | some xs =>
    obtain ⟨o, l, x⟩ := o
    refine ⟨?_, l, fun y hy => (x y hy).on e⟩
    rcases o with o | ⟨a, rfl, n, m⟩
    · exact .inl o
    · exact .inr ⟨a, rfl, n, e.1 _ _ n m⟩
theorem OddT.amt {M : Mm} {h : Addr} {d : D} {am : Option (List D)} (o : OddT M h d am) : Amt M d am := by
  cases am with
  | none => exact ⟨o, fun xs e => by cases e⟩
  | some xs =>
    obtain ⟨o, l, x⟩ := o
    refine ⟨?_, fun ys e => by cases e; exact ⟨l, fun y hy => (x y hy).item⟩⟩
    rcases o with o | ⟨a, rfl, n, m⟩
    · exact .inl o
    · exact .inr ⟨a, rfl, .inl m⟩
theorem OddT.py {M : Mm} {h : Addr} {d : D} {am : Option (List D)} (o : OddT M h d am) : ∀ xs, am = some xs → ∀ x ∈ xs, ∀ M', M.le M' → (toPy M' 8 x).isSome = true := by
  rintro xs rfl x hx M' l
  exact (o.2.2 x hx).py l
structure St (M0 M : Mm) (h a : Addr) (n : Nat) (ds : List D) : Prop where
  g : Grow M0 M h a ds
  l : ds.length = n
  o : ∀ x ∈ ds, OddA M h a x
theorem St.on {M0 M M' : Mm} {h a : Addr} {n : Nat} {ds : List D} (s : St M0 M h a n ds) (H : HandOk M' h) (e : leX h M M') : St M0 M' h a n ds := ⟨s.g.on H e, s.l, fun x hx => (s.o x hx).on e⟩
theorem St.onle {M0 M M' : Mm} {h a : Addr} {n : Nat} {ds : List D} (s : St M0 M h a n ds) (e : M.le M') : St M0 M' h a n ds := s.on (s.g.hand.le e) (leX.of e)
theorem St.set {M0 M : Mm} {h a : Addr} {n k : Nat} {ds : List D} {x : D} (s : St M0 M h a n ds) (o : OddA M h a x) : St M0 (M.put a (.lst (ds.set k x))) h a n (ds.set k x) := ⟨s.g.set, by rw [List.length_set]; exact s.l, fun y hy => by
  rcases List.mem_or_eq_of_mem_set hy with h1 | rfl
  · exact (s.o y h1).put
  · exact o.put⟩
structure SpoG (Γ : Gm) : Prop where
  h21 : Γ.gv 21 = .fn 2 sp_law_draw []
  h23 : Γ.gv 23 = .fn 2 sp_lowest []
  h24 : Γ.gv 24 = .fn 2 sp_plus []
  h49 : Γ.gv 49 = .fn 2 sp_law_pick []
def s_3 : Sms := (.cons (.ifs (.cmp .Eq (.var 5) (.int 3)) (.cons (.setS (.var 3) (.var 4) (.ix (.ix (.var 1) (.var 4)) (.int 1))) .nil) .nil) .nil)
def s_2 : Sms := (.cons (.ifs (.cmp .Eq (.var 5) (.int 2)) (.cons (.setS (.var 3) (.var 4) (.call 24 (.cons (.ix (.ix (.var 1) (.var 4)) (.int 1)) (.cons (.call 23 (.cons (.int 1) (.cons (.op .Add (.int 1) (.call 21 (.cons (.var 0) (.cons (.op .Pow (.int 10) (.int 9)) .nil)))) .nil))) .nil)))) .nil) .nil) s_3)
def s_1 : Sms := (.cons (.ifs (.cmp .Eq (.var 5) (.int 1)) (.cons (.setS (.var 3) (.var 4) (.call 49 (.cons (.var 0) (.cons (.lst (.cons (.tup (.cons (.neg (.int 1)) (.cons (.int 1) .nil))) (.cons (.tup (.cons (.neg (.int 1)) (.cons (.op .Pow (.int 10) (.int 9)) .nil))) (.cons (.tup (.cons (.neg (.int 5)) (.cons (.int 3) .nil))) .nil)))) .nil)))) .nil) .nil) s_2)
def s_0 : Sms := (.cons (.ifs (.cmp .Eq (.var 5) (.int 0)) (.cons (.setS (.var 3) (.var 4) (.call 49 (.cons (.var 0) (.cons (.lst (.cons (.int 0) (.cons .non (.cons (.tup (.cons (.int 2) (.cons (.int 4) .nil))) (.cons (.lst (.cons (.int 1) (.cons (.int 2) .nil))) (.cons (.str "1") (.cons (.tup (.cons (.int 1) (.cons (.int 0) .nil))) (.cons (.int 3) .nil)))))))) .nil)))) .nil) .nil) s_1)
def s_b : Sms := .cons (.set 5 (.call 21 (.cons (.var 0) (.cons (.int 8) .nil)))) s_0
section
variable {Γ : Gm} {M0 M : Mm} {h l a : Addr} {t : D} {v : Int} {k n : Nat} {rows : List RR} {ds : List D} {K : KE}
theorem row_in (hk : k < rows.length) : atI (rows.map rowD) (0 + (k : Nat)) = some (rowD rows[k]) := atI_get (n := k) (by omega) (by rw [List.getElem?_map, List.getElem?_eq_getElem hk]; rfl)
theorem ix_in (hk : k < n) : ixN n (0 + (k : Nat)) = some k := by
  rw [show (0 : Int) + (k : Nat) = (k : Int) by omega]
  exact ixN_nat hk
theorem ev_s3 (s : St M0 M h a n ds) (hM : M l = some (.lst (rows.map rowD))) (hk : k < rows.length) (hn : n = rows.length) (hr : ∀ r ∈ rows, SlotR r)
    (q : ∀ ds M', St M0 M' h a n ds → K.nx [some (.ref h), some (.ref l), some t, some (.ref a), some (.int (0 + (k : Nat))), some (.int v)] M') : evSs Γ s_3 [some (.ref h), some (.ref l), some t, some (.ref a), some (.int (0 + (k : Nat))), some (.int v)] M K := by
  refine ⟨_, rfl, ?_⟩
  rw [eqv_int]
  refine iteD (fun _ => ?_) (fun _ => q ds M s)
  refine ⟨_, .inl hM, _, row_in hk, rt rows[k].2, rfl, ?_⟩
  refine ⟨_, k, s.g.row, by rw [s.l]; exact ix_in (by omega), q _ _ (s.set (.inl (pur_rt ?_)))⟩
  exact (hr _ (List.getElem_mem hk)).2.2.1.mono (by decide)
theorem ev_s2 (g : SpoG Γ) (s : St M0 M h a n ds) (hne : l ≠ h) (hM0 : M0 l = some (.lst (rows.map rowD))) (hk : k < rows.length) (hn : n = rows.length) (hr : ∀ r ∈ rows, SlotR r)
    (q : ∀ ds M', St M0 M' h a n ds → K.nx [some (.ref h), some (.ref l), some t, some (.ref a), some (.int (0 + (k : Nat))), some (.int v)] M') : evSs Γ s_2 [some (.ref h), some (.ref l), some t, some (.ref a), some (.int (0 + (k : Nat))), some (.int v)] M K := by
  have hM := s.g.le.1 _ _ hne hM0
  have cp9 : CPow 10 9 := ⟨by decide, by decide, by decide⟩
  have wr := (hr _ (List.getElem_mem hk)).2
  refine ⟨_, rfl, ?_⟩
  rw [eqv_int]
  refine iteD (fun _ => ?_) (fun _ => ev_s3 s hM hk hn hr q)
  refine ⟨_, .inl hM, _, row_in hk, rt rows[k].2, rfl, cp9, ?_⟩
  rw [pw]
  refine draw_call g.h21 s.g.hand (by decide) (by decide) fun u M1 u0 u1 H1 le1 => ?_
  have s1 := s.on H1 le1
  refine ratio_call g.h23 (by omega) (Nat.lt_trans (log2_lt (n := 64) (by omega) (by decide)) (by decide)) ?_
  have zl : Sz 30 (lowP 1 (1 + u)) := sz_low (by decide) (by omega) (by omega)
  refine call2' g.h24 ⟨_, _, rfl, wr.2.1.mono (by decide), zl.mono (by decide), ?_⟩
  refine ⟨_, k, s1.g.row, by rw [s1.l]; exact ix_in (by omega), ?_⟩
  have s2 := s1.set (k := k) (x := rt (sumP rows[k].2 (lowP 1 (1 + u)))) (.inl (pur_rt ((sumP_sz wr.2.1 zl).mono (by decide))))
  exact ev_s3 s2 (s2.g.le.1 _ _ hne hM0) hk hn hr q
theorem ev_s1 (g : SpoG Γ) (s : St M0 M h a n ds) (hne : l ≠ h) (hM0 : M0 l = some (.lst (rows.map rowD))) (hk : k < rows.length) (hn : n = rows.length) (hr : ∀ r ∈ rows, SlotR r)
    (q : ∀ ds M', St M0 M' h a n ds → K.nx [some (.ref h), some (.ref l), some t, some (.ref a), some (.int (0 + (k : Nat))), some (.int v)] M') : evSs Γ s_1 [some (.ref h), some (.ref l), some t, some (.ref a), some (.int (0 + (k : Nat))), some (.int v)] M K := by
  have cp9 : CPow 10 9 := ⟨by decide, by decide, by decide⟩
  refine ⟨_, rfl, ?_⟩
  rw [eqv_int]
  refine iteD (fun _ => ?_) (fun _ => ev_s2 g s hne hM0 hk hn hr q)
  refine ⟨by rw [sizeLine_eq]; show 2 ≤ _; decide, cp9, by rw [sizeLine_eq]; show 2 ≤ _; decide, by rw [sizeLine_eq]; show 2 ≤ _; decide, by rw [sizeLine_eq]; show 3 ≤ _; decide, fun p2 np2 => ?_⟩
  rw [pw]
  have s1 := s.onle (put_le (o := .lst [rt (-1, 1), rt (-1, 1000000000), rt (-5, 3)]) np2)
  refine pick_call g.h49 s1.g.hand (s.g.hand.ne np2) Mm.put_same (by show 0 < 3; decide) (by show 3 < 1000; decide) fun x hx M3 H3 le3 => ?_
  have s3 := s1.on H3 le3
  have px : Pur x := by
    simp only [List.mem_cons, List.not_mem_nil, or_false] at hx
    rcases hx with rfl | rfl | rfl
    · exact pur_rt (p := (-1, 1)) ((show Sz 30 (-1, 1) from ⟨by decide, by decide, by decide⟩).mono (by decide))
    · exact pur_rt (p := (-1, 1000000000)) ((show Sz 30 (-1, 1000000000) from ⟨by decide, by decide, by decide⟩).mono (by decide))
    · exact pur_rt (p := (-5, 3)) ((show Sz 30 (-5, 3) from ⟨by decide, by decide, by decide⟩).mono (by decide))
  refine ⟨_, k, s3.g.row, by rw [s3.l]; exact ix_in (by omega), ?_⟩
  exact ev_s2 g (s3.set (k := k) (.inl px)) hne hM0 hk hn hr q
theorem ev_s0 (g : SpoG Γ) (s : St M0 M h a n ds) (hne : l ≠ h) (hM0 : M0 l = some (.lst (rows.map rowD))) (hk : k < rows.length) (hn : n = rows.length) (hr : ∀ r ∈ rows, SlotR r)
    (q : ∀ ds M', St M0 M' h a n ds → K.nx [some (.ref h), some (.ref l), some t, some (.ref a), some (.int (0 + (k : Nat))), some (.int v)] M') : evSs Γ s_0 [some (.ref h), some (.ref l), some t, some (.ref a), some (.int (0 + (k : Nat))), some (.int v)] M K := by
  refine ⟨_, rfl, ?_⟩
  rw [eqv_int]
  refine iteD (fun _ => ?_) (fun _ => ev_s1 g s hne hM0 hk hn hr q)
  refine ⟨by rw [sizeLine_eq]; show 2 ≤ _; decide, by rw [sizeLine_eq]; show 2 ≤ _; decide, fun b nb => ?_⟩
  have s1 := s.onle (put_le (o := Two) nb)
  have nbh := s.g.hand.ne nb
  have nba : b ≠ a := fun z => by rw [z, s.g.row] at nb; cases nb
  refine ⟨by rw [sizeLine_eq]; show 2 ≤ _; decide, by rw [sizeLine_eq]; show 7 ≤ _; decide, fun p2 np2 => ?_⟩
  have s2 := s1.onle (put_le (o := .lst [.int 0, .non, .tup [.int 2, .int 4], .ref b, .str "1", .tup [.int 1, .int 0], .int 3]) np2)
  have mb : (M.put b Two) b = some Two := Mm.put_same
  refine pick_call g.h49 s2.g.hand (s1.g.hand.ne np2) Mm.put_same (by show 0 < 7; decide) (by show 7 < 1000; decide) fun x hx M3 H3 le3 => ?_
  have s3 := s2.on H3 le3
  have mb3 : M3 b = some Two := le3.1 _ _ nbh (put_le np2 _ _ mb)
  have px : OddA M3 h a x := by
    simp only [List.mem_cons, List.not_mem_nil, or_false] at hx
    rcases hx with rfl | rfl | rfl | rfl | rfl | rfl | rfl
    · exact .inl (pur_int 0)
    · exact .inl pur_non
    · exact .inl (pur_two (by decide +kernel))
    · exact .inr ⟨b, rfl, nbh, nba, mb3⟩
    · exact .inl (pur_str (by decide +kernel))
    · exact .inl (pur_two (by decide +kernel))
    · exact .inl (pur_int 3)
  refine ⟨_, k, s3.g.row, by rw [s3.l]; exact ix_in (by omega), ?_⟩
  exact ev_s1 g (s3.set (k := k) px) hne hM0 hk hn hr q
end
end LW
namespace LW
open PySem PySem.Spec L2 DL
theorem spo_turns {Γ : Gm} (g : SpoG Γ) {M0 : Mm} {h l a : Addr} {t : D} {rows : List RR} (hne : l ≠ h) (hM0 : M0 l = some (.lst (rows.map rowD))) (hr : ∀ r ∈ rows, SlotR r) {K : KE} : ∀ (I : List Nat) (M : Mm) (ds : List D) (x y : Option D), St M0 M h a rows.length ds → (∀ i ∈ I, i < rows.length) → (∀ ds M' x y, St M0 M' h a rows.length ds → K.nx [some (.ref h), some (.ref l), some t, some (.ref a), x, y] M') → forD (fun _ => True) (.nm 4) (evSs Γ s_b) K (I.map fun i => D.int (0 + (i : Nat))) [some (.ref h), some (.ref l), some t, some (.ref a), x, y] M
  | [], M, ds, x, y, s, _, q => ⟨trivial, q ds M x y s⟩
  | i :: I, M, ds, x, y, s, hi, q => by
    refine ⟨trivial, ?_⟩
    refine draw_call g.h21 s.g.hand (by decide) (by decide) fun v M1 v0 v1 H1 le1 => ?_
    refine ev_s0 (n := rows.length) g (s.on H1 le1) hne hM0 (hi i List.mem_cons_self) rfl hr fun ds M' s' => ?_
    exact spo_turns g hne hM0 hr I M' ds _ _ s' (fun j hj => hi j (List.mem_cons_of_mem _ hj)) q
def sp_law_spoilt27 : DSp := fun ds M _ Q => ∃ h l, ∃ ps : List (Int × Int), ∃ rows : List RR, ds = [.ref h, .ref l, .tup (ps.map rt)] ∧ HandOk M h ∧ l ≠ h ∧ M l = some (.lst (rows.map rowD)) ∧ rows.length ≤ 6 ∧ (∀ r ∈ rows, SlotR r) ∧ ps.length = rows.length ∧ (∀ p ∈ ps, Sz 460 p) ∧
  ∀ d am M', OddT M' h d am → HandOk M' h → leX h M M' → Q d M'
theorem cut_mem {xs : List D} {lo hi : Option Int} {x : D} (h : x ∈ cutD xs lo hi) : x ∈ xs := List.mem_of_mem_drop (List.mem_of_mem_take h)
theorem cut_len (xs : List D) (lo hi : Option Int) : (cutD xs lo hi).length ≤ xs.length := by
  unfold cutD
  rw [List.length_take, List.length_drop]
  omega
theorem pure_law_spoilt27 {Γ : Gm} (g : SpoG Γ) : ∀ ds M E Q, ds.length = 3 → sp_law_spoilt27 ds M E Q → bodyD Γ 6 m_law_spoilt27 ds M E Q := by
  rintro ds M E Q hl ⟨h, l, ps, rows, rfl, H, hne, hM, l6, hr, hl2, hp, q⟩
  refine ⟨_, rfl, fun a na => ?_⟩
  have s : St M (M.put a (.lst (ps.map rt))) h a rows.length (ps.map rt) := ⟨Grow.start H leX.refl na, by rw [List.length_map]; exact hl2, fun x hx => by
    obtain ⟨p, h1, rfl⟩ := List.mem_map.mp hx
    exact .inl (pur_rt (hp p h1))⟩
  refine ⟨_, seq_ref s.g.row, ⟨by omega, by rw [List.length_map]; omega⟩, ?_⟩
  refine spo_turns g hne hM hr _ _ _ none none s (fun i hi => ?_) fun ds M1 x y s1 => ?_
  · have := List.mem_range.mp hi
    rw [List.length_map] at this
    omega
  have hlen := s1.l
  refine draw_call g.h21 s1.g.hand (by decide) (by decide) fun v M2 v0 v1 H2 le2 => ⟨_, rfl, ?_⟩
  have s2 := s1.on H2 le2
  rw [eqv_int]
  have ref : ∀ M', HandOk M' h → leX h M M' → ∀ p xs, p ≠ h → M' p = some (.lst xs) → xs.length < 100 → (∀ x ∈ xs, OddX M' h x) → Q (.ref p) M' := fun M' H e p xs n m l o => q (.ref p) (some xs) M' ⟨.inr ⟨p, rfl, n, m⟩, l, o⟩ H e
  refine iteD (fun _ => ?_) (fun _ => ?_)
  · refine ⟨ds, .inl s2.g.row, fun p1 np1 => ?_⟩
    have s3 := s2.onle (put_le (o := .lst (cutD ds none (some (-1)))) np1)
    refine ⟨by rw [sizeLine_eq]; show 2 ≤ _; decide, by rw [sizeLine_eq]; show 1 ≤ _; decide, fun p2 np2 => ?_⟩
    have lp2 := put_le (o := .lst [rt (0, 1)]) np2
    have s4 := s3.onle lp2
    refine ⟨ds, [rt (0, 1)], s4.g.row, Mm.put_same, by rw [sizeLine_eq]; simp; omega, fun p3 np3 => ?_⟩
    have lp3 := put_le (o := .lst (ds ++ [rt (0, 1)])) np3
    have s5 := s4.onle lp3
    refine ⟨Nat.zero_le _, fun p4 np4 => ?_⟩
    have lp4 := put_le (o := .lst ([] : List D)) np4
    have s6 := s5.onle lp4
    refine ⟨by rw [sizeLine_eq]; show 6 ≤ _; decide, fun p5 np5 => ?_⟩
    have lp5 := put_le (o := .lst [.non, .int 5, .ref p1, .ref p3, .str "ab", .ref p4]) np5
    have s7 := s6.onle lp5
    refine pick_call g.h49 s7.g.hand (s6.g.hand.ne np5) Mm.put_same (by show 0 < 6; decide) (by show 6 < 1000; decide) fun x hx M8 H8 le8 => ?_
    have s8 := s7.on H8 le8
    have up : ∀ p o, p ≠ h → ∀ M' : Mm, (M'.le ((((((M2.put p1 (.lst (cutD ds none (some (-1))))).put p2 (.lst [rt (0, 1)])).put p3 (.lst (ds ++ [rt (0, 1)]))).put p4 (.lst [])).put p5 (.lst [.non, .int 5, .ref p1, .ref p3, .str "ab", .ref p4])))) → M' p = some o → M8 p = some o := fun p o n M' e m => le8.1 _ _ n (e _ _ m)
    simp only [List.mem_cons, List.not_mem_nil, or_false] at hx
    rcases hx with rfl | rfl | rfl | rfl | rfl | rfl
    · exact q .non none M8 (.inl rfl) H8 s8.g.le
    · exact q (.int 5) none M8 (.inr (.inr (.inl ⟨5, rfl⟩))) H8 s8.g.le
    · refine ref M8 H8 s8.g.le p1 _ (s2.g.hand.ne np1) (up p1 _ (s2.g.hand.ne np1) _ (Mm.le_trans lp2 (Mm.le_trans lp3 (Mm.le_trans lp4 lp5))) Mm.put_same) ?_ fun x hx => (s8.o x (cut_mem hx)).x
      have := cut_len ds none (some (-1))
      omega
    · refine ref M8 H8 s8.g.le p3 _ (s4.g.hand.ne np3) (up p3 _ (s4.g.hand.ne np3) _ (Mm.le_trans lp4 lp5) Mm.put_same) (by simp; omega) fun x hx => ?_
      rcases List.mem_append.mp hx with hx | hx
      · exact (s8.o x hx).x
      · rw [List.mem_singleton] at hx
        subst hx
        exact .inl (pur_rt (p := (0, 1)) (sz01'.mono (by decide)))
    · exact q (.str "ab") none M8 (.inr (.inr (.inr ⟨_, rfl⟩))) H8 s8.g.le
    · exact ref M8 H8 s8.g.le p4 [] (s5.g.hand.ne np4) (up p4 _ (s5.g.hand.ne np4) _ lp5 Mm.put_same) (by decide) fun x hx => by cases hx
  · refine ⟨by decide, _, rfl, ?_⟩
    rw [eqv_int]
    refine iteD (fun _ => ?_) (fun _ => ?_)
    · exact ⟨_, seq_ref s2.g.row, q (.tup ds) (some ds) M2 ⟨.inl rfl, by omega, fun x hx => (s2.o x hx).x⟩ H2 s2.g.le⟩
    · exact ref M2 H2 s2.g.le a ds s2.g.ne s2.g.row (by omega) fun x hx => (s2.o x hx).x
end LW
namespace LW
open PySem PySem.Spec L2 DL
/-! ### equal answers -/
theorem eqv_rt (p : Int × Int) : PyData.eqv (PyData.tuple [.int p.1, .int p.2]) (PyData.tuple [.int p.1, .int p.2]) = true := by
  rw [eqv_rt2, decide_eq_true rfl]
theorem rt_inj {p q : Int × Int} (e1 : rt p = rt q) : p = q := by
  obtain ⟨a, b⟩ := p
  obtain ⟨c, d⟩ := q
  cases e1
  rfl
theorem ne_str {M : Mm} {a : Str} (h : PyData.strOk a = true) : cmpD M .NotEq (.str a) (.str a) = some false := by
  have := eq_str (M := M) h
  show (match toPy M 9 (.str a), toPy M 9 (.str a) with | some p, some q => some (!PyData.eqv p q) | _, _ => none) = _
  have this : (match toPy M 9 (.str a), toPy M 9 (.str a) with | some p, some q => some (PyData.eqv p q) | _, _ => none) = some true := this
  cases e : toPy M 9 (.str a) with
  | none => rw [e] at this; cases this
  | some p =>
    rw [e] at this
    simp only [Option.some.injEq] at this
    show some (!PyData.eqv p p) = _
    rw [this]
    rfl
theorem eqv_two {a b : PyData} (ha : PyData.eqv a a = true) (hb : PyData.eqv b b = true) : PyData.eqv (.tuple [a, b]) (.tuple [a, b]) = true := by
  simp [PyData.eqv, PyData.eqvAll, ha, hb]
theorem ne_car {M : Mm} (p q : Int × Int) : cmpD M .NotEq (.tup [rt p, rt q]) (.tup [rt p, rt q]) = some false := by
  show some (!PyData.eqv (PyData.tuple [.tuple [.int p.1, .int p.2], .tuple [.int q.1, .int q.2]]) (PyData.tuple [.tuple [.int p.1, .int p.2], .tuple [.int q.1, .int q.2]])) = _
  rw [eqv_two (eqv_rt p) (eqv_rt q)]
  rfl
theorem ne_cs {M : Mm} {a b : Str} (ha : PyData.strOk a = true) (hb : PyData.strOk b = true) : cmpD M .NotEq (.tup [.str a, .str b]) (.tup [.str a, .str b]) = some false := by
  have e : toPy M 9 (.tup [.str a, .str b]) = some (.tuple [.str a, .str b]) := by
    show (match toPys (toPy M 8) [.str a, .str b] with | some ps => some (PyData.tuple ps) | none => none) = _
    have h1 : ∀ x : Str, PyData.strOk x = true → toPy M 8 (.str x) = some (.str x) := fun x h => by
      show (if PySem.PyData.strOk x then some (PyData.str x) else none) = _
      rw [if_pos h]
    simp only [toPys, h1 a ha, h1 b hb]
  show (match toPy M 9 (.tup [.str a, .str b]), toPy M 9 (.tup [.str a, .str b]) with | some p, some q => some (!PyData.eqv p q) | _, _ => none) = _
  rw [e]
  show some (!PyData.eqv (.tuple [.str a, .str b]) (.tuple [.str a, .str b])) = _
  rw [eqv_two (by simp [PyData.eqv]) (by simp [PyData.eqv])]
  rfl
def pyR (r : RR) : PyData := .tuple [.tuple [.int r.1.1, .int r.1.2], .tuple [.int r.2.1, .int r.2.2]]
theorem toPys_row (M : Mm) (n : Nat) : ∀ (rs : List RR), toPys (toPy M (n + 3)) (rs.map rowD) = some (rs.map pyR)
  | [] => rfl
  | p :: ps => by
    have e : toPy M (n + 3) (rowD p) = some (pyR p) := rfl
    show (match toPy M (n + 3) (rowD p), toPys (toPy M (n + 3)) (ps.map rowD) with | some a, some b => some (a :: b) | _, _ => none) = _
    rw [e, toPys_row M n ps]
    rfl
theorem eqvAll_row : ∀ (rs : List RR), PyData.eqvAll (rs.map pyR) (rs.map pyR) = true
  | [] => by simp [PyData.eqvAll]
  | p :: ps => by
    have := eqvAll_row ps
    have e : PyData.eqv (pyR p) (pyR p) = true := eqv_two (eqv_rt p.1) (eqv_rt p.2)
    simp [PyData.eqvAll, e, this]
theorem eq_trows {M : Mm} (rs : List RR) : cmpD M .Eq (.tup (rs.map rowD)) (.tup (rs.map rowD)) = some true := by
  have e : toPy M 9 (.tup (rs.map rowD)) = some (.tuple (rs.map pyR)) := by
    show (match toPys (toPy M 8) (rs.map rowD) with | some ps => some (PyData.tuple ps) | none => none) = _
    simp only [toPys_row M 5]
  show (match toPy M 9 (.tup (rs.map rowD)), toPy M 9 (.tup (rs.map rowD)) with | some p, some q => some (PyData.eqv p q) | _, _ => none) = _
  rw [e]
  simp [PyData.eqv, eqvAll_row]
theorem firstF_ok : ∀ {xs : List D} {rows : List RR} {v : Str}, firstF xs rows = some v → v = "amount" ∨ v = "slot"
  | [], _, v, h => by unfold firstF at h; cases h
  | x :: xs, [], v, h => by unfold firstF at h; cases h
  | x :: xs, r :: rs, v, h => by
    simp only [firstF] at h
    cases e : ratO x with
    | none => rw [e] at h; cases h; exact .inl rfl
    | some p =>
      rw [e] at h
      by_cases c1 : p.1 < 0
      · simp only [c1, if_true] at h; cases h; exact .inl rfl
      · by_cases c2 : 0 < cmpP p r.2
        · simp only [c1, c2, if_true, if_false] at h; cases h; exact .inr rfl
        · simp only [c1, c2, if_false] at h
          exact firstF_ok h
def words : List Str := ["length", "amount", "slot", "most", "weight", "moment"]
theorem words_ok : ∀ w ∈ words, PyData.strOk w = true := by decide +kernel
theorem in_words {w : Str} (h : w = "length" ∨ w = "amount" ∨ w = "slot" ∨ w = "most" ∨ w = "weight" ∨ w = "moment") : w ∈ words := by
  unfold words
  simpa using h
theorem faultS_ok {rows : List RR} {most : Option (Int × Int)} {am : Option (List D)} {w m : Int × Int} {v : Str} (h : faultS rows most am w m = some v) : PyData.strOk v = true := by
  refine words_ok v (in_words ?_)
  cases am with
  | none => cases h; exact .inl rfl
  | some xs =>
    simp only [faultS] at h
    by_cases cc : xs.length = rows.length
    · simp only [cc, ne_eq, not_true_eq_false, if_false] at h
      cases e : firstF xs rows with
      | some u =>
        rw [e] at h
        cases h
        rcases firstF_ok e with rfl | rfl
        · exact .inr (.inl rfl)
        · exact .inr (.inr (.inl rfl))
      | none =>
        rw [e] at h
        cases e2 : ratsO xs with
        | none => rw [e2] at h; cases h
        | some ps =>
          rw [e2] at h
          have h : endF rows most ps w m = some v := h
          unfold endF at h
          split at h
          · cases h; exact .inr (.inr (.inr (.inl rfl)))
          · split at h
            · split at h
              · cases h
              · cases h; exact .inr (.inr (.inr (.inr (.inr rfl))))
            · cases h; exact .inr (.inr (.inr (.inr (.inl rfl))))
    · simp only [cc, ne_eq, not_false_eq_true, if_true] at h
      cases h; exact .inl rfl
theorem ne_fault {M : Mm} (rows : List RR) (most : Option (Int × Int)) (am : Option (List D)) (w m : Int × Int) : cmpD M .NotEq (resD (faultS rows most am w m)) (resD (faultS rows most am w m)) = some false := by
  cases e : faultS rows most am w m with
  | none => rfl
  | some v => exact ne_str (faultS_ok e)
/-- what cargo_by makes, or its word -/
def madeD (rows : List RR) (am : Option (List D)) : D := match am with
  | none => .str "length"
  | some xs => if xs.length ≠ rows.length then .str "length" else match ratsO xs with
    | none => .str "amount"
    | some ps => .tup [rt (sumL ps), rt (sumL (moms ps rows))]
theorem madeR_of {rows : List RR} {am : Option (List D)} {M : Mm} {Q : QD} (h : ∀ M', M.le M' → Q (madeD rows am) M') : MadeR rows am M Q := by
  unfold MadeR
  cases am with
  | none => exact h
  | some xs =>
    by_cases cc : xs.length = rows.length
    · simp only [madeD, cc, ne_eq, not_true_eq_false, if_false] at h
      simp only [byW, cc, ne_eq, not_true_eq_false, if_false]
      cases e : ratsO xs with
      | none => rw [e] at h; exact h
      | some ps =>
        rw [e] at h
        intro xs' ps' M' e1 e2 l
        cases e1
        rw [e] at e2
        cases e2
        exact h M' l
    · simp only [madeD, cc, ne_eq, not_false_eq_true, if_true] at h
      simp only [byW, cc, ne_eq, not_false_eq_true, if_true]
      exact h
theorem ok_len : PyData.strOk ("length" : Str) = true := by decide +kernel
theorem ok_amt : PyData.strOk ("amount" : Str) = true := by decide +kernel
theorem ne_made {M : Mm} (rows : List RR) (am : Option (List D)) : cmpD M .NotEq (madeD rows am) (madeD rows am) = some false := by
  unfold madeD
  cases am with
  | none => exact ne_str ok_len
  | some xs =>
    show cmpD M .NotEq (if xs.length ≠ rows.length then _ else _) (if xs.length ≠ rows.length then _ else _) = _
    split
    · exact ne_str ok_len
    · cases ratsO xs with
      | none => exact ne_str ok_amt
      | some ps => exact ne_car _ _
/-! ### the law -/
structure Sit (CS : Addr) (M : Mm) (h l s : Addr) (rows : List RR) (most : Option (Int × Int)) : Prop where
  hand : HandOk M h
  lh : l ≠ h
  row : M l = some (.lst (rows.map rowD))
  sh : s ≠ h
  slot : SlotsAt CS M s (rows.map rowD) (optD most)
theorem Sit.on {CS : Addr} {M M' : Mm} {h l s : Addr} {rows : List RR} {most : Option (Int × Int)} (S : Sit CS M h l s rows most) (H : HandOk M' h) (e : leX h M M') : Sit CS M' h l s rows most := ⟨H, S.lh, e.1 _ _ S.lh S.row, S.sh, e.1 _ _ S.sh S.slot⟩
theorem Sit.onle {CS : Addr} {M M' : Mm} {h l s : Addr} {rows : List RR} {most : Option (Int × Int)} (S : Sit CS M h l s rows most) (e : M.le M') : Sit CS M' h l s rows most := S.on (S.hand.le e) (leX.of e)
structure LawG (Γ : Gm) (CS CA CB CC : Addr) : Prop where
  h20 : Γ.gv 20 = .fn 1 sp_law_hand []
  h21 : Γ.gv 21 = .fn 2 sp_law_draw []
  h23 : Γ.gv 23 = .fn 2 sp_lowest []
  h24 : Γ.gv 24 = .fn 2 sp_plus []
  h25 : Γ.gv 25 = .fn 2 sp_minus []
  h45 : Γ.gv 45 = .cla CS (some (2, sp_Slots CS CB, [.non]))
  h47 : Γ.gv 47 = .fn 2 (sp_cargo_by CS CA) []
  h48 : Γ.gv 48 = .fn 3 (sp_stowage_fault CS CC) []
  h52 : Γ.gv 52 = .fn 1 sp_law_slot_rows []
  h54 : Γ.gv 54 = .fn 2 sp_law_most []
  h55 : Γ.gv 55 = .fn 2 sp_law_cargo_of27 []
  h56 : Γ.gv 56 = .fn 3 sp_law_amounts27 []
  h57 : Γ.gv 57 = .fn 3 sp_law_spoilt27 []
  h58 : Γ.gv 58 = .fn 4 sp_law_due27 []
  h59 : Γ.gv 59 = .fn 3 (sp_law_fault27 CS) []
  h60 : Γ.gv 60 = .fn 2 (sp_law_made_by27 CS) []
  h61 : Γ.gv 61 = .fn 2 sp_law_made_due27 []
  f1 : Γ.fld CS "rows"
/-- what the law knows of its draws -/
structure Fac (rows : List RR) (most : Option (Int × Int)) : Prop where
  r1 : 1 ≤ rows.length
  r6 : rows.length ≤ 6
  sr : ∀ r ∈ rows, SlotR r
  mo : MostOk most
theorem Fac.ok {rows : List RR} {most : Option (Int × Int)} (f : Fac rows most) : RowsOk rows := ⟨f.r6, fun r h => ⟨(f.sr r h).1.1, (f.sr r h).1.2.1, (f.sr r h).2.1, (f.sr r h).2.2.1⟩⟩
theorem Fac.mz {rows : List RR} {most : Option (Int × Int)} (f : Fac rows most) : ∀ q, most = some q → Sz 3000 q := fun q e => (f.mo q e).2.1.mono (by decide)
/-- a good cargo -/
structure Car (w m : Int × Int) : Prop where
  rw' : Red w
  rm : Red m
  zw : Sz 3000 w
  zm : Sz 3000 m
  p : 0 ≤ w.1
theorem cmp_rt {M : Mm} (p : Int × Int) : Cmp M (rt p) := ⟨⟨_, rfl⟩, fun x y e => (by cases e; exact ⟨⟨_, rfl⟩, ⟨_, rfl⟩⟩)⟩
theorem sml_rt {p : Int × Int} {n : Nat} (h : Sz n p) : Sml n (rt p) := fun q e => by
  have e1 : rt p = rt q := (ratO_some e).1
  have : p = q := by
    obtain ⟨a, b⟩ := p
    obtain ⟨c, d⟩ := q
    cases e1
    rfl
  rw [← this]; exact h
theorem Car.none {w m : Int × Int} (c : Car w m) : cargoW (some [rt w, rt m]) = none := by
  simp only [cargoW, btw0, ratO_red c.rw', ratO_red c.rm]
  have : decide (w.1 < 0) = false := decide_eq_false (by have := c.p; omega)
  rw [this]
  rfl
theorem Car.items {w m : Int × Int} (c : Car w m) {M : Mm} : ∀ xs, some [rt w, rt m] = some xs → xs.length < 100 ∧ ∀ x ∈ xs, Cmp M x ∧ Sml 3000 x := fun xs e => by
  cases e
  refine ⟨by show 2 < 100; decide, fun x hx => ?_⟩
  simp only [List.mem_cons, List.not_mem_nil, or_false] at hx
  rcases hx with rfl | rfl
  · exact ⟨cmp_rt w, sml_rt c.zw⟩
  · exact ⟨cmp_rt m, sml_rt c.zm⟩
section
variable {Γ : Gm} {CS CA CB CC : Addr} {M : Mm} {h l s : Addr} {rows : List RR} {most : Option (Int × Int)} {d : D} {am : Option (List D)} {w m : Int × Int} {E : EK} {Q : QD}
theorem fault59 (g : LawG Γ CS CA CB CC) (S : Sit CS M h l s rows most) (f : Fac rows most) (c : Car w m) (hA : Amt M d am) (q : ∀ M', M.le M' → Q (resD (faultS rows most am w m)) M') : callD (Γ.gv 59) 3 [.ref s, d, .tup [rt w, rt m]] M E Q := by
  refine call3' g.h59 ⟨s, d, am, _, some [rt w, rt m], rows, most, rfl, S.slot, f.ok, f.mz, hA, .inl rfl, c.items, ?_⟩
  rw [c.none]
  rintro w' m' e
  have e1 : [rt w, rt m] = [rt w', rt m'] := Option.some.inj e
  have hw : w = w' := rt_inj (List.cons.inj e1).1
  have hm : m = m' := rt_inj (List.cons.inj (List.cons.inj e1).2).1
  rw [← hw, ← hm]
  exact q
theorem fault48 (g : LawG Γ CS CA CB CC) (S : Sit CS M h l s rows most) (f : Fac rows most) (c : Car w m) {x : D} (hc : Am M x (some [rt w, rt m])) (hA : Amt M d am) (q : ∀ M', M.le M' → Q (resD (faultS rows most am w m)) M') : callD (Γ.gv 48) 3 [.ref s, d, x] M E Q := by
  refine call3' g.h48 ⟨s, d, am, _, some [rt w, rt m], rows, most, rfl, S.slot, f.ok, f.mz, hA, hc, c.items, ?_⟩
  rw [c.none]
  rintro w' m' e
  have e1 : [rt w, rt m] = [rt w', rt m'] := Option.some.inj e
  have hw : w = w' := rt_inj (List.cons.inj e1).1
  have hm : m = m' := rt_inj (List.cons.inj (List.cons.inj e1).2).1
  rw [← hw, ← hm]
  exact q
theorem due58 (g : LawG Γ CS CA CB CC) (S : Sit CS M h l s rows most) (f : Fac rows most) (hA : Amt M d am) (q : Q (resD (faultS rows most am w m)) M) : callD (Γ.gv 58) 4 [.ref l, optD most, d, .tup [rt w, rt m]] M E Q :=
  call4' g.h58 ⟨l, most, d, am, w, m, rows, rfl, S.row, f.ok, f.mz, hA, q⟩
theorem by60 (g : LawG Γ CS CA CB CC) (S : Sit CS M h l s rows most) (f : Fac rows most) (hA : Amt M d am) (q : ∀ M', M.le M' → Q (madeD rows am) M') : callD (Γ.gv 60) 2 [.ref s, d] M E Q :=
  call2' g.h60 ⟨s, d, am, rows, _, rfl, S.slot, f.ok, hA, madeR_of q⟩
theorem due61 (g : LawG Γ CS CA CB CC) (S : Sit CS M h l s rows most) (f : Fac rows most) (o : OddT M h d am) (q : ∀ M', M.le M' → Q (madeD rows am) M') : callD (Γ.gv 61) 2 [.ref l, d] M E Q :=
  call2' g.h61 ⟨l, d, am, rows, rfl, S.row, f.ok, o.amt, o.py, madeR_of q⟩
end
theorem sum_nn : ∀ (ps : List (Int × Int)) (t : Int × Int), 0 ≤ t.1 → 0 < t.2 → (∀ p ∈ ps, 0 ≤ p.1 ∧ 0 < p.2) → 0 ≤ (ps.foldl sumP t).1
  | [], t, h, _, _ => h
  | p :: ps, t, h, h2, hp => by
    obtain ⟨p1, p2⟩ := hp p List.mem_cons_self
    have h3 : 0 < t.2 * p.2 := Int.mul_pos h2 p2
    have a1 : 0 ≤ t.1 * p.2 := Int.mul_nonneg h (by omega)
    have a2 : 0 ≤ p.1 * t.2 := Int.mul_nonneg p1 (by omega)
    have := low_ge (w := 0) (a := t.1 * p.2 + p.1 * t.2) h3 (by omega)
    exact sum_nn ps (sumP t p) (by show 0 ≤ (lowP _ _).1; omega) (sumP_red h2 p2).1 fun q hq => hp q (List.mem_cons_of_mem _ hq)
theorem sumL_nn {ps : List (Int × Int)} (hp : ∀ q ∈ ps, 0 ≤ q.1 ∧ 0 < q.2) : 0 ≤ (sumL ps).1 := sum_nn ps (0, 1) (by decide) (by decide) hp
/-- the cargo of amounts -/
theorem car_of {ps : List (Int × Int)} {rows : List RR} (hR : RowsOk rows) (hp : ∀ p ∈ ps, Red p ∧ Sz 460 p) (h0 : 0 ≤ (sumL ps).1) (hl : ps.length ≤ 6) : Car (sumL ps) (sumL (moms ps rows)) ∧ Sz 2767 (sumL ps) ∧ Sz 2947 (sumL (moms ps rows)) := by
  have hm : ∀ q ∈ moms ps rows, Red q ∧ Sz 490 q := fun q hq => by
    obtain ⟨p, r, h1, h2, rfl⟩ := moms_mem hq
    obtain ⟨a1, a2, a3, a4⟩ := hR.2 r h2
    exact ⟨mulP_red (hp p h1).1.1 a1.1, mulP_sz (hp p h1).2 a2⟩
  have ml : (moms ps rows).length ≤ 6 := by simp [moms]; omega
  have z1 : Sz 2767 (sumL ps) := sumL_sz hp hl
  have z2 : Sz 2947 (sumL (moms ps rows)) := sumL_sz hm ml
  exact ⟨⟨sumL_red fun p h => (hp p h).1, sumL_red fun p h => (hm p h).1, z1.mono (by decide), z2.mono (by decide), h0⟩, z1, z2⟩
end LW
namespace LW
open PySem PySem.Spec L2 DL
def l_6 : Sms := (.cons (.ifs (.cmp .NotEq (.call 59 (.cons (.var 4) (.cons (.var 7) (.cons (.var 13) .nil)))) (.tup (.cons (.str "cargo") (.cons (.var 14) .nil)))) (.cons (.ret (.bl false)) .nil) .nil) (.cons (.ret (.bop .And (.cons (.cmp .Is (.call 48 (.cons (.var 4) (.cons (.var 5) (.cons (.var 6) .nil)))) .non) (.cons (.cmp .Eq (.fld (.var 4) "rows") (.bi .tuple (.cons (.var 2) .nil))) .nil)))) .nil))
def l_5 : Sms := (.cons (.setT (.tup (.cons (.nm 13) (.cons (.nm 14) .nil))) (.ix (.lst (.cons (.tup (.cons .non (.cons (.str "pair") .nil))) (.cons (.tup (.cons (.tup .nil) (.cons (.str "pair") .nil))) (.cons (.tup (.cons (.tup (.cons (.ix (.var 6) (.int 0)) .nil)) (.cons (.str "pair") .nil))) (.cons (.tup (.cons (.tup (.cons (.tup (.cons (.neg (.int 1)) (.cons (.int 3) .nil))) (.cons (.ix (.var 6) (.int 1)) .nil))) (.cons (.str "weight") .nil))) (.cons (.tup (.cons (.tup (.cons (.int 4) (.cons (.ix (.var 6) (.int 1)) .nil))) (.cons (.str "weight") .nil))) (.cons (.tup (.cons (.tup (.cons (.ix (.var 6) (.int 0)) (.cons (.int 4) .nil))) (.cons (.str "moment") .nil))) (.cons (.tup (.cons (.tup (.cons (.tup (.cons (.neg (.int 1)) (.cons (.int 1) .nil))) (.cons .non .nil))) (.cons (.str "weight") .nil))) .nil)))))))) (.call 21 (.cons (.var 1) (.cons (.int 7) .nil))))) l_6)
def l_4b : Sms := (.cons (.ifs (.cmp .NotEq (.call 59 (.cons (.var 4) (.cons (.var 5) (.cons (.var 12) .nil)))) (.call 58 (.cons (.var 2) (.cons (.var 3) (.cons (.var 5) (.cons (.var 12) .nil)))))) (.cons (.ret (.bl false)) .nil) .nil) l_5)
def l_4 : Sms := (.cons (.set 10 (.call 23 (.cons (.int 1) (.cons (.op .Add (.int 1) (.call 21 (.cons (.var 1) (.cons (.op .Pow (.int 10) (.int 9)) .nil)))) .nil)))) (.cons (.set 11 (.call 24 (.cons (.ix (.var 6) (.int 0)) (.cons (.var 10) .nil)))) (.cons (.set 12 (.ix (.lst (.cons (.tup (.cons (.ix (.var 6) (.int 0)) (.cons (.call 24 (.cons (.ix (.var 6) (.int 1)) (.cons (.var 10) .nil))) .nil))) (.cons (.tup (.cons (.var 11) (.cons (.ix (.var 6) (.int 1)) .nil))) (.cons (.tup (.cons (.var 11) (.cons (.call 25 (.cons (.ix (.var 6) (.int 1)) (.cons (.var 10) .nil))) .nil))) .nil)))) (.call 21 (.cons (.var 1) (.cons (.int 3) .nil))))) l_4b)))
def l_3 : Sms := (.cons (.setLc 9 [16, 15] (.tup (.cons (.nm 16) (.cons (.nm 15) .nil))) (.seq (.var 2)) .none (.var 15)) (.cons (.ifs (.cmp .NotEq (.call 59 (.cons (.var 4) (.cons (.var 9) (.cons (.call 55 (.cons (.var 2) (.cons (.var 9) .nil))) .nil)))) (.call 58 (.cons (.var 2) (.cons (.var 3) (.cons (.var 9) (.cons (.call 55 (.cons (.var 2) (.cons (.var 9) .nil))) .nil)))))) (.cons (.ret (.bl false)) .nil) .nil) l_4))
def l_2b : Sms := (.cons (.ifs (.bop .And (.cons (.val (.bi .isi (.cons (.var 8) (.cons (.tyn .tuple) .nil)))) (.cons (.cmp .GtE (.ix (.ix (.var 8) (.int 0)) (.int 0)) (.int 0)) (.cons (.cmp .NotEq (.call 59 (.cons (.var 4) (.cons (.var 7) (.cons (.var 8) .nil)))) (.call 58 (.cons (.var 2) (.cons (.var 3) (.cons (.var 7) (.cons (.var 8) .nil)))))) .nil)))) (.cons (.ret (.bl false)) .nil) .nil) l_3)
def l_2 : Sms := (.cons (.set 7 (.call 57 (.cons (.var 1) (.cons (.var 2) (.cons (.var 5) .nil))))) (.cons (.ifs (.cmp .NotEq (.call 59 (.cons (.var 4) (.cons (.var 7) (.cons (.var 6) .nil)))) (.call 58 (.cons (.var 2) (.cons (.var 3) (.cons (.var 7) (.cons (.var 6) .nil)))))) (.cons (.ret (.bl false)) .nil) .nil) (.cons (.ifs (.cmp .NotEq (.call 60 (.cons (.var 4) (.cons (.var 7) .nil))) (.call 61 (.cons (.var 2) (.cons (.var 7) .nil)))) (.cons (.ret (.bl false)) .nil) .nil) (.cons (.set 8 (.call 61 (.cons (.var 2) (.cons (.var 7) .nil)))) l_2b))))
def l_1 : Sms := (.cons (.ifs (.bop .Or (.cons (.cmp .IsNot (.call 48 (.cons (.var 4) (.cons (.var 5) (.cons (.var 6) .nil)))) .non) (.cons (.cmp .IsNot (.call 48 (.cons (.var 4) (.cons (.bi .list (.cons (.var 5) .nil)) (.cons (.bi .list (.cons (.var 6) .nil)) .nil)))) .non) .nil))) (.cons (.ret (.bl false)) .nil) .nil) (.cons (.ifs (.cmp .NotEq (.call 47 (.cons (.var 4) (.cons (.var 5) .nil))) (.var 6)) (.cons (.ret (.bl false)) .nil) .nil) l_2))

theorem amt_ps {M : Mm} {ps : List (Int × Int)} (hp : ∀ p ∈ ps, Red p ∧ Sz 460 p) (hl : ps.length ≤ 6) {d : D} (h : Am M d (some (ps.map rt))) : Amt M d (some (ps.map rt)) := ⟨h, fun xs e => by
  cases e
  refine ⟨by rw [List.length_map]; omega, fun x hx => ?_⟩
  obtain ⟨p, h1, rfl⟩ := List.mem_map.mp hx
  exact ⟨cmp_rt p, sml_rt (hp p h1).2⟩⟩
theorem sz2 : 2 ≤ sizeLine := by rw [sizeLine_eq]; decide
theorem szk {n : Nat} (h : n ≤ 100) : n ≤ sizeLine := by rw [sizeLine_eq]; omega
theorem subP_sz {p q : Int × Int} {n m : Nat} (hp : Sz n p) (hq : Sz m q) : Sz (n + m + 1) (subP p q) := by
  have e : subP p q = sumP p (-q.1, q.2) := by
    show lowP (p.1 * q.2 - q.1 * p.2) (p.2 * q.2) = lowP (p.1 * q.2 + -q.1 * p.2) (p.2 * q.2)
    rw [Int.neg_mul, ← Int.sub_eq_add_neg]
  rw [e]
  exact sumP_sz hp (q := (-q.1, q.2)) ⟨by show (-q.1).natAbs < _; rw [Int.natAbs_neg]; exact hq.1, hq.2.1, hq.2.2⟩
/-- all that stands when the first cargo is reckoned -/
structure All (CS : Addr) (M : Mm) (h l s : Addr) (rows : List RR) (most : Option (Int × Int)) (ps : List (Int × Int)) : Prop where
  S : Sit CS M h l s rows most
  f : Fac rows most
  hp : ∀ p ∈ ps, Red p ∧ Sz 460 p
  pl : ps.length = rows.length
  C : Car (sumL ps) (sumL (moms ps rows))
  zS : Sz 2767 (sumL ps)
  zT : Sz 2947 (sumL (moms ps rows))
  good : faultS rows most (some (ps.map rt)) (sumL ps) (sumL (moms ps rows)) = none
section
variable {CS : Addr} {M M' : Mm} {h l s : Addr} {rows : List RR} {most : Option (Int × Int)} {ps : List (Int × Int)}
theorem All.on (A : All CS M h l s rows most ps) (H : HandOk M' h) (e : leX h M M') : All CS M' h l s rows most ps := ⟨A.S.on H e, A.f, A.hp, A.pl, A.C, A.zS, A.zT, A.good⟩
theorem All.onle (A : All CS M h l s rows most ps) (e : M.le M') : All CS M' h l s rows most ps := ⟨A.S.onle e, A.f, A.hp, A.pl, A.C, A.zS, A.zT, A.good⟩
theorem All.amt (A : All CS M h l s rows most ps) {d : D} (h : Am M d (some (ps.map rt))) : Amt M d (some (ps.map rt)) := amt_ps A.hp (by have := A.f.r6; have := A.pl; omega) h
end
section
variable {Γ : Gm} {CS CA CB CC : Addr} {M : Mm} {h l s : Addr} {rows : List RR} {most : Option (Int × Int)} {ps : List (Int × Int)} {d : D} {am : Option (List D)} {K : KE} {a0 x7 x8 x9 x10 x11 x12 x13 x14 x15 x16 : Option D}
theorem ev_l6 (g : LawG Γ CS CA CB CC) (A : All CS M h l s rows most ps) (o : OddT M h d am) {b : D} {w : Str} {cm : Option (List D)} (hc : Am M b cm) (hi : ∀ xs, cm = some xs → xs.length < 100 ∧ ∀ x ∈ xs, Cmp M x ∧ Sml 3000 x) (hw : cargoW cm = some w) (ow : PyData.strOk w = true)
    (q : ∀ M', K.rt (.bl true) M') : evSs Γ l_6 [a0, some (.ref h), some (.ref l), some (optD most), some (.ref s), some (.tup (ps.map rt)), some (.tup [rt (sumL ps), rt (sumL (moms ps rows))]), some d, x8, x9, x10, x11, x12, some b, some (.str w), x15, x16] M K := by
  refine call3' g.h59 ⟨s, d, am, b, cm, rows, most, rfl, A.S.slot, A.f.ok, A.f.mz, o.amt, hc, hi, ?_⟩
  rw [hw]
  intro M1 l1
  refine ⟨sz2, _, ne_cs (by decide +kernel) ow, ?_⟩
  refine iteF ?_
  have A1 := A.onle l1
  refine fault48 g A1.S A1.f A1.C (.inl rfl) (A1.amt (.inl rfl)) fun M2 l2 => ?_
  have A2 := A1.onle l2
  rw [A.good]
  refine ⟨_, rfl, ?_⟩
  exact ⟨CS, _, _, A2.S.slot, g.f1, rfl, _, seq_ref A2.S.row, _, eq_trows rows, q _⟩
theorem ev_l5 (g : LawG Γ CS CA CB CC) (A : All CS M h l s rows most ps) (o : OddT M h d am)
    (q : ∀ M', K.rt (.bl true) M') : evSs Γ l_5 [a0, some (.ref h), some (.ref l), some (optD most), some (.ref s), some (.tup (ps.map rt)), some (.tup [rt (sumL ps), rt (sumL (moms ps rows))]), some d, x8, x9, x10, x11, x12, x13, x14, x15, x16] M K := by
  have C := A.C
  refine ⟨szk (by decide : 2 ≤ 100), szk (by decide : 0 ≤ 100), sz2, rt (sumL ps), rfl, szk (by decide : 1 ≤ 100), sz2, sz2, rt (sumL (moms ps rows)), rfl, sz2, sz2, rt (sumL (moms ps rows)), rfl, sz2, sz2, rt (sumL ps), rfl, sz2, sz2, sz2, sz2, sz2, szk (by decide : 7 ≤ 100), fun p np => ?_⟩
  have A1 := A.onle (put_le (o := .lst [.tup [.non, .str "pair"], .tup [.tup [], .str "pair"], .tup [.tup [rt (sumL ps)], .str "pair"], .tup [.tup [rt (-1, 3), rt (sumL (moms ps rows))], .str "weight"], .tup [.tup [.int 4, rt (sumL (moms ps rows))], .str "weight"], .tup [.tup [rt (sumL ps), .int 4], .str "moment"], .tup [.tup [rt (-1, 1), .non], .str "weight"]]) np)
  have hne := A.S.hand.ne np
  refine draw_call g.h21 A1.S.hand (by decide) (by decide) fun v M2 v0 v1 H2 le2 => ?_
  have A2 := A1.on H2 le2
  have e2 := le2.1 p _ hne Mm.put_same
  have o2 := (o.on (leX.of (put_le np))).on le2
  have it : ∀ x y : D, (∀ M : Mm, Cmp M x ∧ Sml 3000 x) → (∀ M : Mm, Cmp M y ∧ Sml 3000 y) → ∀ xs, some [x, y] = some xs → xs.length < 100 ∧ ∀ z ∈ xs, Cmp M2 z ∧ Sml 3000 z := fun x y hx hy xs e => by
    cases e
    refine ⟨by show 2 < 100; decide, fun z hz => ?_⟩
    simp only [List.mem_cons, List.not_mem_nil, or_false] at hz
    rcases hz with rfl | rfl
    · exact hx M2
    · exact hy M2
  have iS : ∀ M : Mm, Cmp M (rt (sumL ps)) ∧ Sml 3000 (rt (sumL ps)) := fun M => ⟨cmp_rt _, sml_rt C.zw⟩
  have iT : ∀ M : Mm, Cmp M (rt (sumL (moms ps rows))) ∧ Sml 3000 (rt (sumL (moms ps rows))) := fun M => ⟨cmp_rt _, sml_rt C.zm⟩
  have i4 : ∀ M : Mm, Cmp M (.int 4) ∧ Sml 3000 (.int 4) := fun M => ⟨(pur_int 4).1 M, (pur_int 4).2.1.mono (by decide)⟩
  have i0 : ∀ M : Mm, Cmp M .non ∧ Sml 3000 .non := fun M => ⟨pur_non.1 M, pur_non.2.1.mono (by decide)⟩
  have n13 : Sz 460 ((-1, 3) : Int × Int) := (show Sz 30 (-1, 3) from ⟨by decide, by decide, by decide⟩).mono (by decide)
  have n11 : Sz 460 ((-1, 1) : Int × Int) := (show Sz 30 (-1, 1) from ⟨by decide, by decide, by decide⟩).mono (by decide)
  have i13 : ∀ M : Mm, Cmp M (rt (-1, 3)) ∧ Sml 3000 (rt (-1, 3)) := fun M => ⟨cmp_rt _, sml_rt (n13.mono (by decide))⟩
  have i11 : ∀ M : Mm, Cmp M (rt (-1, 1)) ∧ Sml 3000 (rt (-1, 1)) := fun M => ⟨cmp_rt _, sml_rt (n11.mono (by decide))⟩
  have r13 : ratO (rt (-1, 3)) = some (-1, 3) := ratO_red ⟨by decide, by decide +kernel⟩
  have r11 : ratO (rt (-1, 1)) = some (-1, 1) := ratO_red ⟨by decide, by decide +kernel⟩
  have r4 : ratO (.int 4) = none := rfl
  have bS : btwP (rt (sumL ps)) (0, 1) none = true := by
    rw [btw0, ratO_red C.rw']
    show (!decide ((sumL ps).1 < 0)) = true
    rw [decide_eq_false (by have := C.p; omega)]
    rfl
  have w1 : cargoW (some [rt (-1, 3), rt (sumL (moms ps rows))]) = some "weight" := by
    simp only [cargoW, btw0, r13]
    rfl
  have w2 : cargoW (some [.int 4, rt (sumL (moms ps rows))]) = some "weight" := by
    simp only [cargoW, btw0, r4]
    rfl
  have w3 : cargoW (some [rt (sumL ps), .int 4]) = some "moment" := by
    simp only [cargoW, bS, r4]
    rfl
  have w4 : cargoW (some [rt (-1, 1), .non]) = some "weight" := by
    simp only [cargoW, btw0, r11]
    rfl
  have one : ∀ xs, some [rt (sumL ps)] = some xs → xs.length < 100 ∧ ∀ z ∈ xs, Cmp M2 z ∧ Sml 3000 z := fun xs e => by
    cases e
    refine ⟨by show 1 < 100; decide, fun z hz => ?_⟩
    rw [List.mem_singleton] at hz
    subst hz
    exact iS M2
  have hv : v = 0 ∨ v = 1 ∨ v = 2 ∨ v = 3 ∨ v = 4 ∨ v = 5 ∨ v = 6 := by omega
  rcases hv with rfl | rfl | rfl | rfl | rfl | rfl | rfl
  · exact ⟨_, .inl e2, .tup [.non, .str "pair"], rfl, ev_l6 g A2 o2 (cm := none) (.inl rfl) (fun xs e => by cases e) rfl (by decide +kernel) q⟩
  · exact ⟨_, .inl e2, .tup [.tup [], .str "pair"], rfl, ev_l6 g A2 o2 (cm := some []) (.inl rfl) (fun xs e => by cases e; exact ⟨by decide, fun x h => by cases h⟩) rfl (by decide +kernel) q⟩
  · exact ⟨_, .inl e2, .tup [.tup [rt (sumL ps)], .str "pair"], rfl, ev_l6 g A2 o2 (cm := some [rt (sumL ps)]) (.inl rfl) one rfl (by decide +kernel) q⟩
  · exact ⟨_, .inl e2, .tup [.tup [rt (-1, 3), rt (sumL (moms ps rows))], .str "weight"], rfl, ev_l6 g A2 o2 (cm := some [rt (-1, 3), rt (sumL (moms ps rows))]) (.inl rfl) (it _ _ i13 iT) w1 (by decide +kernel) q⟩
  · exact ⟨_, .inl e2, .tup [.tup [.int 4, rt (sumL (moms ps rows))], .str "weight"], rfl, ev_l6 g A2 o2 (cm := some [.int 4, rt (sumL (moms ps rows))]) (.inl rfl) (it _ _ i4 iT) w2 (by decide +kernel) q⟩
  · exact ⟨_, .inl e2, .tup [.tup [rt (sumL ps), .int 4], .str "moment"], rfl, ev_l6 g A2 o2 (cm := some [rt (sumL ps), .int 4]) (.inl rfl) (it _ _ iS i4) w3 (by decide +kernel) q⟩
  · exact ⟨_, .inl e2, .tup [.tup [rt (-1, 1), .non], .str "weight"], rfl, ev_l6 g A2 o2 (cm := some [rt (-1, 1), .non]) (.inl rfl) (it _ _ i11 i0) w4 (by decide +kernel) q⟩
theorem ev_l4b (g : LawG Γ CS CA CB CC) (A : All CS M h l s rows most ps) (o : OddT M h d am) {w m : Int × Int} (c : Car w m)
    (q : ∀ M', K.rt (.bl true) M') : evSs Γ l_4b [a0, some (.ref h), some (.ref l), some (optD most), some (.ref s), some (.tup (ps.map rt)), some (.tup [rt (sumL ps), rt (sumL (moms ps rows))]), some d, x8, x9, x10, x11, some (.tup [rt w, rt m]), x13, x14, x15, x16] M K := by
  refine fault59 g A.S A.f c (A.amt (.inl rfl)) fun M1 l1 => ?_
  have A1 := A.onle l1
  refine due58 g A1.S A1.f (A1.amt (.inl rfl)) ⟨_, ne_fault _ _ _ _ _, ?_⟩
  exact iteF (ev_l5 g A1 (o.on (leX.of l1)) q)
theorem ev_l4 (g : LawG Γ CS CA CB CC) (A : All CS M h l s rows most ps) (o : OddT M h d am)
    (q : ∀ M', K.rt (.bl true) M') : evSs Γ l_4 [a0, some (.ref h), some (.ref l), some (optD most), some (.ref s), some (.tup (ps.map rt)), some (.tup [rt (sumL ps), rt (sumL (moms ps rows))]), some d, x8, x9, x10, x11, x12, x13, x14, x15, x16] M K := by
  have C := A.C
  have cp9 : CPow 10 9 := ⟨by decide, by decide, by decide⟩
  refine ⟨cp9, ?_⟩
  rw [pw]
  refine draw_call g.h21 A.S.hand (by decide) (by decide) fun v M1 v0 v1 H1 le1 => ?_
  have A1 := A.on H1 le1
  have o1 := o.on le1
  have b0 : (0 : Int) < 1 + v := by omega
  have rL : Red (lowP 1 (1 + v)) := lowP_red (by omega)
  have zL : Sz 30 (lowP 1 (1 + v)) := sz_low (by decide) (by omega) b0
  have pL : 0 < (lowP 1 (1 + v)).1 := low_gt b0 (by decide)
  refine ratio_call g.h23 (by omega) (Nat.lt_trans (log2_lt (n := 64) (by omega) (by decide)) (by decide)) ?_
  generalize lowP 1 (1 + v) = L at rL zL pL ⊢
  refine ⟨rt (sumL ps), rfl, ?_⟩
  refine call2' g.h24 ⟨_, _, rfl, C.zw, zL.mono (by decide), ?_⟩
  have zM := sumP_sz A.zS zL
  have rM := sumP_red C.rw'.1 rL.1 (p := sumL ps) (q := L)
  have pM : 0 ≤ (sumP (sumL ps) L).1 := by
    have h3 : 0 < (sumL ps).2 * L.2 := Int.mul_pos C.rw'.1 rL.1
    have a1 : 0 ≤ (sumL ps).1 * L.2 := Int.mul_nonneg C.p (by have := rL.1; omega)
    have a2 : 0 ≤ L.1 * (sumL ps).2 := Int.mul_nonneg (by omega) (by have := C.rw'.1; omega)
    have := low_ge (w := 0) (a := (sumL ps).1 * L.2 + L.1 * (sumL ps).2) h3 (by omega)
    show 0 ≤ (lowP _ _).1
    omega
  have zP := sumP_sz A.zT zL
  have rP := sumP_red C.rm.1 rL.1 (p := sumL (moms ps rows)) (q := L)
  have zB := subP_sz A.zT zL
  have rB := subP_red C.rm.1 rL.1 (p := sumL (moms ps rows)) (q := L)
  have c1 : Car (sumL ps) (sumP (sumL (moms ps rows)) L) := ⟨C.rw', rP, C.zw, zP.mono (by decide), C.p⟩
  have c2 : Car (sumP (sumL ps) L) (sumL (moms ps rows)) := ⟨rM, C.rm, zM.mono (by decide), C.zm, pM⟩
  have c3 : Car (sumP (sumL ps) L) (subP (sumL (moms ps rows)) L) := ⟨rM, rB, zM.mono (by decide), zB.mono (by decide), pM⟩
  generalize sumP (sumL ps) L = Mo at zM rM pM c2 c3 ⊢
  refine ⟨rt (sumL ps), rfl, rt (sumL (moms ps rows)), rfl, ?_⟩
  refine call2' g.h24 ⟨_, _, rfl, C.zm, zL.mono (by decide), sz2, rt (sumL (moms ps rows)), rfl, sz2, rt (sumL (moms ps rows)), rfl, ?_⟩
  refine call2' g.h25 ⟨_, _, rfl, C.zm, zL.mono (by decide), sz2, szk (by decide : 3 ≤ 100), fun p np => ?_⟩
  have A2 := A1.onle (put_le (o := .lst [.tup [rt (sumL ps), rt (sumP (sumL (moms ps rows)) L)], .tup [rt Mo, rt (sumL (moms ps rows))], .tup [rt Mo, rt (subP (sumL (moms ps rows)) L)]]) np)
  have hne := A1.S.hand.ne np
  refine draw_call g.h21 A2.S.hand (by decide) (by decide) fun v M3 v0 v1 H3 le3 => ?_
  have A3 := A2.on H3 le3
  have e3 := le3.1 p _ hne Mm.put_same
  have o3 := (o1.on (leX.of (put_le np))).on le3
  have hv : v = 0 ∨ v = 1 ∨ v = 2 := by omega
  rcases hv with rfl | rfl | rfl
  · exact ⟨_, .inl e3, .tup [rt (sumL ps), rt (sumP (sumL (moms ps rows)) L)], rfl, ev_l4b g A3 o3 c1 q⟩
  · exact ⟨_, .inl e3, .tup [rt Mo, rt (sumL (moms ps rows))], rfl, ev_l4b g A3 o3 c2 q⟩
  · exact ⟨_, .inl e3, .tup [rt Mo, rt (subP (sumL (moms ps rows)) L)], rfl, ev_l4b g A3 o3 c3 q⟩
end
end LW
namespace LW
open PySem PySem.Spec L2 DL
theorem made_cases {rows : List RR} {am : Option (List D)} (h : ∀ xs, am = some xs → ∀ x ∈ xs, Sml 460 x) : (∃ w, madeD rows am = .str w) ∨ ∃ qs, madeD rows am = .tup [rt (sumL qs), rt (sumL (moms qs rows))] ∧ (∀ p ∈ qs, Red p ∧ Sz 460 p) ∧ qs.length = rows.length := by
  cases am with
  | none => exact .inl ⟨_, rfl⟩
  | some xs =>
    by_cases cc : xs.length = rows.length
    · cases e : ratsO xs with
      | none =>
        refine .inl ⟨"amount", ?_⟩
        simp only [madeD, cc, ne_eq, not_true_eq_false, if_false, e]
      | some qs =>
        obtain ⟨rfl, red, szs⟩ := ratsO_some e
        refine .inr ⟨qs, ?_, fun p hp => ⟨red p hp, szs 460 (h _ rfl) p hp⟩, by rw [List.length_map] at cc; exact cc⟩
        simp only [madeD, cc, ne_eq, not_true_eq_false, if_false, e]
    · refine .inl ⟨"length", ?_⟩
      simp only [madeD, cc, ne_eq, not_false_eq_true, if_true]
theorem OddT.sml {M : Mm} {h : Addr} {d : D} {am : Option (List D)} (o : OddT M h d am) : ∀ xs, am = some xs → ∀ x ∈ xs, Sml 460 x := by
  rintro xs rfl x hx
  exact (o.2.2 x hx).item.2
section
variable {Γ : Gm} {CS CA CB CC : Addr} {M : Mm} {h l s : Addr} {rows : List RR} {most : Option (Int × Int)} {ps : List (Int × Int)} {d : D} {am : Option (List D)} {K : KE} {a0 x7 x8 x9 x10 x11 x12 x13 x14 x15 x16 : Option D}
theorem ev_l3 (g : LawG Γ CS CA CB CC) (A : All CS M h l s rows most ps) (o : OddT M h d am)
    (q : ∀ M', K.rt (.bl true) M') : evSs Γ l_3 [a0, some (.ref h), some (.ref l), some (optD most), some (.ref s), some (.tup (ps.map rt)), some (.tup [rt (sumL ps), rt (sumL (moms ps rows))]), some d, x8, x9, x10, x11, x12, x13, x14, x15, x16] M K := by
  have r6 := A.f.r6
  refine ⟨_, .inl A.S.row, fun p np => ?_⟩
  have hw : ∀ p ∈ rows.map (·.2), Red p ∧ Sz 460 p := fun p hp => by
    obtain ⟨r, h1, rfl⟩ := List.mem_map.mp hp
    exact ⟨(A.f.sr r h1).2.1, (A.f.sr r h1).2.2.1.mono (by decide)⟩
  have hw2 : ∀ p ∈ rows.map (·.2), 0 ≤ p.1 ∧ 0 < p.2 := fun p hp => by
    obtain ⟨r, h1, rfl⟩ := List.mem_map.mp hp
    have := (A.f.sr r h1).2.2.2
    exact ⟨by omega, (A.f.sr r h1).2.1.1⟩
  have wl : (rows.map (·.2)).length = rows.length := List.length_map ..
  refine compL_map (M := M) sndD (fun acc => .inl ((put_le np) _ _ A.S.row)) _ [] _ (fun e he acc K hK => ?_) (by simp; omega) ?_
  · obtain ⟨r, h1, rfl⟩ := List.mem_map.mp he
    exact hK
  · rw [List.nil_append, snd_rows]
    have lp := put_le (o := .lst ((rows.map (·.2)).map rt)) np
    have A1 := A.onle lp
    have o1 := o.on (leX.of lp)
    have m1 : (M.put p (.lst ((rows.map (·.2)).map rt))) p = some (.lst ((rows.map (·.2)).map rt)) := Mm.put_same
    generalize M.put p (.lst ((rows.map (·.2)).map rt)) = M1 at A1 o1 m1 ⊢
    generalize rows.map (·.2) = ws at hw hw2 wl m1 ⊢
    obtain ⟨c, _, _⟩ := car_of A.f.ok hw (sumL_nn hw2) (by omega)
    refine call2' g.h55 ⟨l, .ref p, ws, rows, rfl, A1.S.row, A.f.ok, .inr ⟨p, rfl, .inl m1⟩, by omega, fun p hp => (hw p hp).2, ?_⟩
    refine fault59 (am := some (ws.map rt)) g A1.S A1.f c (amt_ps hw (by omega) (.inr ⟨p, rfl, .inl m1⟩)) fun M2 l2 => ?_
    have A2 := A1.onle l2
    have m2 := l2 _ _ m1
    refine call2' g.h55 ⟨l, .ref p, ws, rows, rfl, A2.S.row, A.f.ok, .inr ⟨p, rfl, .inl m2⟩, by omega, fun p hp => (hw p hp).2, ?_⟩
    refine due58 (am := some (ws.map rt)) g A2.S A2.f (amt_ps hw (by omega) (.inr ⟨p, rfl, .inl m2⟩)) ⟨_, ne_fault _ _ _ _ _, ?_⟩
    exact iteF (ev_l4 g A2 (o1.on (leX.of l2)) q)
theorem ev_l2b (g : LawG Γ CS CA CB CC) (A : All CS M h l s rows most ps) (o : OddT M h d am)
    (q : ∀ M', K.rt (.bl true) M') : evSs Γ l_2b [a0, some (.ref h), some (.ref l), some (optD most), some (.ref s), some (.tup (ps.map rt)), some (.tup [rt (sumL ps), rt (sumL (moms ps rows))]), some d, some (madeD rows am), x9, x10, x11, x12, x13, x14, x15, x16] M K := by
  have r6 := A.f.r6
  rcases made_cases (rows := rows) o.sml with ⟨w, e⟩ | ⟨qs, e, hq, ql⟩
  · rw [e]
    exact ⟨_, rfl, _, rfl, ev_l3 g A o q⟩
  · rw [e]
    refine ⟨_, rfl, _, rfl, ?_⟩
    refine ⟨rt (sumL qs), rfl, .int (sumL qs).1, rfl, _, rfl, ?_⟩
    by_cases c0 : 0 ≤ (sumL qs).1
    · rw [decide_eq_true c0]
      obtain ⟨c, _, _⟩ := car_of A.f.ok hq c0 (by omega)
      refine fault59 g A.S A.f c o.amt fun M1 l1 => ?_
      have A1 := A.onle l1
      have o1 := o.on (leX.of l1)
      refine due58 g A1.S A1.f o1.amt ⟨_, ne_fault _ _ _ _ _, ?_⟩
      exact iteF (ev_l3 g A1 o1 q)
    · rw [decide_eq_false c0]
      exact ev_l3 g A o q
theorem ev_l2 (g : LawG Γ CS CA CB CC) (A : All CS M h l s rows most ps)
    (q : ∀ M', K.rt (.bl true) M') : evSs Γ l_2 [a0, some (.ref h), some (.ref l), some (optD most), some (.ref s), some (.tup (ps.map rt)), some (.tup [rt (sumL ps), rt (sumL (moms ps rows))]), x7, x8, x9, x10, x11, x12, x13, x14, x15, x16] M K := by
  refine call3' g.h57 ⟨h, l, ps, rows, rfl, A.S.hand, A.S.lh, A.S.row, A.f.r6, A.f.sr, A.pl, fun p hp => (A.hp p hp).2, fun d am M1 o H1 le1 => ?_⟩
  have A1 := A.on H1 le1
  refine fault59 g A1.S A1.f A1.C o.amt fun M2 l2 => ?_
  have A2 := A1.onle l2
  have o2 := o.on (leX.of l2)
  refine due58 g A2.S A2.f o2.amt ⟨_, ne_fault _ _ _ _ _, ?_⟩
  refine iteF ?_
  refine by60 g A2.S A2.f o2.amt fun M3 l3 => ?_
  have A3 := A2.onle l3
  have o3 := o2.on (leX.of l3)
  refine due61 g A3.S A3.f o3 fun M4 l4 => ⟨_, ne_made _ _, ?_⟩
  have A4 := A3.onle l4
  have o4 := o3.on (leX.of l4)
  refine iteF ?_
  refine due61 g A4.S A4.f o4 fun M5 l5 => ?_
  exact ev_l2b g (A4.onle l5) (o4.on (leX.of l5)) q
theorem ev_l1 (g : LawG Γ CS CA CB CC) (A : All CS M h l s rows most ps)
    (q : ∀ M', K.rt (.bl true) M') : evSs Γ l_1 [a0, some (.ref h), some (.ref l), some (optD most), some (.ref s), some (.tup (ps.map rt)), some (.tup [rt (sumL ps), rt (sumL (moms ps rows))]), x7, x8, x9, x10, x11, x12, x13, x14, x15, x16] M K := by
  have r6 := A.f.r6
  refine fault48 g A.S A.f A.C (.inl rfl) (A.amt (.inl rfl)) fun M1 l1 => ?_
  have A1 := A.onle l1
  rw [A.good]
  refine ⟨_, rfl, ?_⟩
  refine ⟨_, rfl, fun p np => ?_⟩
  have lp := put_le (o := .lst (ps.map rt)) np
  have A2 := A1.onle lp
  have m2 : (M1.put p (.lst (ps.map rt))) p = some (.lst (ps.map rt)) := Mm.put_same
  refine ⟨_, rfl, fun p2 np2 => ?_⟩
  have lp2 := put_le (o := .lst [rt (sumL ps), rt (sumL (moms ps rows))]) np2
  have A3 := A2.onle lp2
  refine fault48 g A3.S A3.f A3.C (.inr ⟨p2, rfl, .inl Mm.put_same⟩) (A3.amt (.inr ⟨p, rfl, .inl (lp2 _ _ m2)⟩)) fun M4 l4 => ?_
  have A4 := A3.onle l4
  rw [A.good]
  refine ⟨_, rfl, ?_⟩
  refine iteF ?_
  refine call2' g.h47 ⟨s, _, some (ps.map rt), rows, optD most, rfl, A4.S.slot, A4.f.ok, A4.amt (.inl rfl), ?_⟩
  have hr : ratsO (ps.map rt) = some ps := ratsO_rt fun p hp => (A.hp p hp).1
  have hby : byW rows.length (some (ps.map rt)) = none := by
    simp only [byW, List.length_map, A.pl, ne_eq, not_true_eq_false, if_false, hr]
  rw [hby]
  rintro xs' ps' M5 e1 e2 l5
  cases e1
  rw [hr] at e2
  cases e2
  refine ⟨_, ne_car _ _, ?_⟩
  exact iteF (ev_l2 g (A4.onle l5) q)
end
/-! ### slots made of what is drawn -/
def rowRs (rows : List RR) : List (D × Option (List D)) := rows.map fun r => (rowD r, some [rt r.1, rt r.2])
theorem row_ok {r : RR} (h : SlotR r) : rowW (some [rt r.1, rt r.2]) = none := by
  obtain ⟨⟨p1, p2, p3, p4⟩, ⟨w1, w2, w3⟩⟩ := h
  have b : btwP (rt r.1) (-1000, 1) (some (1000, 1)) = true := by
    unfold btwP
    rw [ratO_red p1]
    show (!decide (cmpP r.1 (-1000, 1) < 0) && decide (cmpP r.1 (1000, 1) ≤ 0)) = true
    rw [decide_eq_false (by rw [cmp_neg]; show ¬ r.1.1 * 1 < -1000 * r.1.2; omega), decide_eq_true (by rw [cmp_le]; show r.1.1 * 1 ≤ 1000 * r.1.2; omega)]
    rfl
  simp only [rowW, b, ratO_red w1]
  rw [if_neg (by decide), if_pos w3]
theorem first_ok : ∀ (rows : List RR) (k : Int), (∀ r ∈ rows, SlotR r) → firstW k ((rowRs rows).map (·.2)) = none
  | [], _, _ => rfl
  | r :: rows, k, h => by
    show (match rowW (some [rt r.1, rt r.2]) with | some w => some (k, w) | none => firstW (k + 1) ((rowRs rows).map (·.2))) = none
    rw [row_ok (h r List.mem_cons_self)]
    exact first_ok rows (k + 1) fun r' h' => h r' (List.mem_cons_of_mem _ h')
theorem most_ok {most : Option (Int × Int)} (h : MostOk most) : mostW (optD most) = none := by
  cases most with
  | none => rfl
  | some q =>
    obtain ⟨r, z, p⟩ := h q rfl
    show (match ratO (rt q) with | some p => if 0 < p.1 then (none : Option (Int × Str)) else some (0, "most") | none => some (0, "most")) = none
    rw [ratO_red r]
    simp only [p, if_true]
theorem slots_ok {rows : List RR} {most : Option (Int × Int)} (f : Fac rows most) : slotsW (some ((rowRs rows).map (·.2))) (optD most) = none := by
  have e : whP (.int ((rowRs rows).map (·.2)).length) (.int 1) (.int 6) = true := by
    have r1 := f.r1
    have r6 := f.r6
    simp only [rowRs, List.length_map, whP, Bool.and_eq_true, decide_eq_true_eq]
    omega
  show (if whP (.int ((rowRs rows).map (·.2)).length) (.int 1) (.int 6) = false then (some (0, "many") : Option (Int × Str)) else match firstW 0 ((rowRs rows).map (·.2)) with | some x => some x | none => mostW (optD most)) = none
  rw [e, if_neg (by decide), first_ok rows 0 f.sr]
  exact most_ok f.mo
theorem rowRs_fst (rows : List RR) : (rowRs rows).map (·.1) = rows.map rowD := by
  unfold rowRs
  rw [List.map_map]
  rfl
theorem rowRs_D (rows : List RR) : rowsD (rowRs rows) = rows.map rowD := by
  unfold rowsD rowRs
  rw [List.map_map]
  rfl
theorem good_of {rows : List RR} {most : Option (Int × Int)} {ps : List (Int × Int)} (fit : Fit ps rows) (ov : overM most (sumL ps) = false) : faultS rows most (some (ps.map rt)) (sumL ps) (sumL (moms ps rows)) = none := by
  have hr : ratsO (ps.map rt) = some ps := ratsO_rt fun p hp => fit.red p hp
  simp only [faultS, List.length_map, fit.len, ne_eq, not_true_eq_false, if_false, fit.first, hr, endF, ov, Bool.false_eq_true, if_true]
theorem fit_nn : ∀ {ps : List (Int × Int)} {rs : List RR}, Fit ps rs → ∀ p ∈ ps, 0 ≤ p.1 ∧ 0 < p.2
  | [], _, _, p, h => by cases h
  | q :: qs, r :: rs, f, p, h => by
    rcases List.mem_cons.mp h with rfl | h
    · exact ⟨f.1.2.1, f.1.1.1⟩
    · exact fit_nn f.2 p h
  | _ :: _, [], f, _, _ => by cases f
theorem mk_ev {Γ : Gm} {CS CB : Addr} (h45 : Γ.gv 45 = .cla CS (some (2, sp_Slots CS CB, [.non]))) {ρ : DEnv} {i j : Nat} {x y : D} (hi : ρ[i]? = some (some x)) (hj : ρ[j]? = some (some y)) {M : Mm} {E : EK} {Q : QD} (h : ∀ p, M p = none → sp_Slots CS CB [.ref p, x, y] (M.put p (.ins CS [])) E fun d M' => d = .non ∧ Q (.ref p) M') : evE Γ (.mk 45 (.cons (.var i) (.cons (.var j) .nil))) ρ M E Q := by
  refine ⟨by rw [h45]; show 2 - 2 ≤ 1; decide, ?_⟩
  show match ρ[i]? with | some (some d) => _ | _ => False
  rw [hi]
  show match ρ[j]? with | some (some d) => _ | _ => False
  rw [hj]
  exact slots_make h45 h
theorem bits_log {z : Int} (h : Builtin.Int.intBits z ≤ 1048576) : z.natAbs.log2 < 2000000 := by
  unfold Builtin.Int.intBits at h
  by_cases c : z = 0
  · subst c; decide
  · rw [if_neg (by simpa using c)] at h
    omega
theorem pure_law27 {Γ : Gm} {CS CA CB CC : Addr} (g : LawG Γ CS CA CB CC) : ∀ ds M E Q, ds.length = 1 → spLawD ds M E Q → bodyD Γ 17 m_law27 ds M E Q := by
  rintro ds M E Q hl ⟨a, ns, rfl, hn, hb, hM, _, q⟩
  refine call1' g.h20 ⟨a, ns, rfl, hn, fun z hz => bits_log (hb z hz), hM, fun h M1 H1 => ?_⟩
  refine call1' g.h52 ⟨h, rfl, H1, fun l rows M2 r1 r6 sr lh row H2 le2 => ?_⟩
  refine call2' g.h54 ⟨h, l, rows, rfl, H2, lh, row, r1, r6, sr, fun most M3 mo H3 le3 => ?_⟩
  have row3 := le3.1 _ _ lh row
  have f : Fac rows most := ⟨r1, r6, sr, mo⟩
  refine mk_ev (i := 2) (j := 3) (ρ := [some (.ref a), some (.ref h), some (.ref l), some (optD most), none, none, none, none, none, none, none, none, none, none, none, none, none]) g.h45 rfl rfl fun s ns => ?_
  have lp := put_le (o := .ins CS []) ns
  refine ⟨s, .ref l, optD most, some (rowRs rows), rfl, Mm.put_same, ?_, fun l' e => ?_, ?_, ?_, ?_⟩
  · show Am _ _ (some ((rowRs rows).map (·.1)))
    rw [rowRs_fst]
    exact .inr ⟨l, rfl, .inl (lp _ _ row3)⟩
  · cases e
    refine ⟨by unfold rowRs; rw [List.length_map]; omega, fun r hr => ?_⟩
    obtain ⟨r0, h0, rfl⟩ := List.mem_map.mp hr
    refine ⟨.inl rfl, fun xs e => ?_⟩
    cases e
    refine ⟨by show 2 < 100; decide, fun x hx => ?_⟩
    simp only [List.mem_cons, List.not_mem_nil, or_false] at hx
    rcases hx with rfl | rfl
    · exact ⟨cmp_rt _, sml_rt ((sr r0 h0).1.2.1.mono (by decide))⟩
    · exact ⟨cmp_rt _, sml_rt ((sr r0 h0).2.2.1.mono (by decide))⟩
  · cases most with
    | none => exact pur_non.1 _
    | some u => exact cmp_rt u
  · cases most with
    | none => exact pur_non.2.1.mono (by decide)
    | some u => exact sml_rt ((mo u rfl).2.1.mono (by decide))
  · show match slotsW (some ((rowRs rows).map (·.2))) (optD most) with | some (i, w) => _ | none => _
    rw [slots_ok f]
    intro M4 keep ms
    have l4 : M3.le M4 := fun b o e => by
      have hbs : b ≠ s := fun z => by rw [z, ns] at e; cases e
      exact keep b o hbs (by rw [Mm.put_ne hbs]; exact e)
    have ms : M4 s = some (.ins CS [("rows", .tup (rowsD (rowRs rows))), ("most", optD most)]) := ms
    rw [rowRs_D] at ms
    have S4 : Sit CS M4 h l s rows most := ⟨H3.le l4, lh, l4 _ _ row3, H3.ne ns, ms⟩
    refine ⟨rfl, ?_⟩
    refine call3' g.h56 ⟨h, l, most, rows, rfl, S4.hand, lh, S4.row, r6, sr, mo, fun ps M5 fit sz ov H5 le5 => ?_⟩
    have S5 := S4.on H5 le5
    have pl := fit.len
    have hp : ∀ p ∈ ps, Red p ∧ Sz 460 p := fun p h => ⟨fit.red p h, sz p h⟩
    obtain ⟨c, z1, z2⟩ := car_of f.ok hp (sumL_nn (fit_nn fit)) (by omega)
    refine call2' g.h55 ⟨l, _, ps, rows, rfl, S5.row, f.ok, .inl rfl, by omega, sz, ?_⟩
    exact ev_l1 g ⟨S5, f, hp, pl, c, z1, z2, good_of fit ov⟩ fun M' => q M'
end LW
namespace LW
open PySem PySem.Spec PyProof.Rows L2 DL
def top (i : Nat) : Stmt := PySem.Challenge.pw_dryholds_k27_stowages_judged.main.body.getD i (.Pass ⟨0, 0, 0, 0⟩)
def mth (i j : Nat) : Stmt := match top i with
  | .ClassDef _ _ _ body _ _ _ _ _ _ _ => body.getD j (.Pass ⟨0, 0, 0, 0⟩)
  | _ => .Pass ⟨0, 0, 0, 0⟩
def gnT : List (Str × Option (Nat × Nat)) := [((Str.ofString "ShipError"), none), ((Str.ofString "BadRatio"), none), ((Str.ofString "ZERO"), none), ((Str.ofString "law"), some (1, 0)), ((Str.ofString "is_whole"), some (3, 2)), ((Str.ofString "is_ratio"), some (1, 0)), ((Str.ofString "make_ratio"), some (2, 1)), ((Str.ofString "lowest"), some (2, 0)), ((Str.ofString "plus"), some (2, 0)), ((Str.ofString "law"), some (1, 0)), ((Str.ofString "times"), some (2, 0)), ((Str.ofString "law"), some (1, 0)), ((Str.ofString "law"), some (1, 0)), ((Str.ofString "compare"), some (2, 0)), ((Str.ofString "sum_of"), some (1, 0)), ((Str.ofString "law"), some (1, 0)), ((Str.ofString "law"), some (1, 0)), ((Str.ofString "law"), some (1, 0)), ((Str.ofString "law"), some (1, 0)), ((Str.ofString "_law_mix"), some (2, 0)), ((Str.ofString "_law_hand"), some (1, 0)), ((Str.ofString "_law_draw"), some (2, 0)), ((Str.ofString "_law_gcd"), some (2, 0)), ((Str.ofString "_law_ratio"), some (2, 0)), ((Str.ofString "_law_plus"), some (2, 0)), ((Str.ofString "_law_minus"), some (2, 0)), ((Str.ofString "_law_times"), some (2, 0)), ((Str.ofString "_law_compare"), some (2, 0)), ((Str.ofString "law"), some (1, 0)), ((Str.ofString "law"), some (1, 0)), ((Str.ofString "_law_is_ratio"), some (1, 0)), ((Str.ofString "law"), some (1, 0)), ((Str.ofString "law"), some (1, 0)), ((Str.ofString "law"), some (1, 0)), ((Str.ofString "law"), some (1, 0)), ((Str.ofString "law"), some (1, 0)), ((Str.ofString "law"), some (1, 0)), ((Str.ofString "law"), some (1, 0)), ((Str.ofString "law"), some (1, 0)), ((Str.ofString "BadCargo"), none), ((Str.ofString "BadSlots"), none), ((Str.ofString "BadAmounts"), none), ((Str.ofString "is_sequence"), some (3, 2)), ((Str.ofString "is_between"), some (3, 1)), ((Str.ofString "check_cargo"), some (1, 0)), ((Str.ofString "Slots"), none), ((Str.ofString "_is_above_zero"), some (1, 0)), ((Str.ofString "cargo_by"), some (2, 0)), ((Str.ofString "stowage_fault"), some (3, 0)), ((Str.ofString "_law_pick"), some (2, 0)), ((Str.ofString "_law_some"), some (2, 0)), ((Str.ofString "_law_weight"), some (1, 0)), ((Str.ofString "_law_slot_rows"), some (1, 0)), ((Str.ofString "_law_sum"), some (1, 0)), ((Str.ofString "_law_most"), some (2, 0)), ((Str.ofString "_law_cargo_of"), some (2, 0)), ((Str.ofString "_law_amounts"), some (3, 0)), ((Str.ofString "_law_spoilt"), some (3, 0)), ((Str.ofString "_law_due"), some (4, 0)), ((Str.ofString "_law_fault"), some (3, 0)), ((Str.ofString "_law_made_by"), some (2, 0)), ((Str.ofString "_law_made_due"), some (2, 0)), ((Str.ofString "law"), some (1, 0)), ((Str.ofString "law"), some (1, 0)), ((Str.ofString "law"), some (1, 0)), ((Str.ofString "law"), some (1, 0)), ((Str.ofString "law"), some (1, 0)), ((Str.ofString "law"), some (1, 0)), ((Str.ofString "law"), some (1, 0)), ((Str.ofString "law"), some (1, 0)), ((Str.ofString "law"), some (1, 0))]
def xnT : List Str := [(Str.ofString "abs"), (Str.ofString "all"), (Str.ofString "any"), (Str.ofString "bool"), (Str.ofString "divmod"), (Str.ofString "enumerate"), (Str.ofString "int"), (Str.ofString "isinstance"), (Str.ofString "len"), (Str.ofString "list"), (Str.ofString "max"), (Str.ofString "min"), (Str.ofString "range"), (Str.ofString "str"), (Str.ofString "sum"), (Str.ofString "tuple"), (Str.ofString "zip")]
def t0 : Tb := { N := [], sc := { kind := .function, names := [], isGenerator := false, isCoroutine := false }, gn := gnT, xn := xnT, gcd := true, fn := true }
def t_law_hand : Tb := { t0 with N := [(Str.ofString "_law_script"), (Str.ofString "_law_total"), (Str.ofString "_law_k"), (Str.ofString "_law_cell")], sc := defScope (top 29) }
theorem ck_law_hand : chkSs t_law_hand m_law_hand (defBody (top 29)) = true := by decide +kernel
theorem sc_law_hand : FnScope t_law_hand.N [(Str.ofString "_law_script")] (defScope (top 29)) := ⟨rfl, rfl, rfl, by decide +kernel, rfl, by decide +kernel, by decide +kernel⟩
def d_law_hand : He.DefD := ⟨("_law_hand", none), "_law_hand", "_law_hand", defArgs (top 29), defBody (top 29), defScope (top 29), [], []⟩
def t_law_mix : Tb := { t0 with N := [(Str.ofString "_law_number"), (Str.ofString "_law_turn"), (Str.ofString "_law_once"), (Str.ofString "_law_twice")], sc := defScope (top 28) }
theorem ck_law_mix : chkSs t_law_mix m_law_mix (defBody (top 28)) = true := by decide +kernel
theorem sc_law_mix : FnScope t_law_mix.N [(Str.ofString "_law_number"), (Str.ofString "_law_turn")] (defScope (top 28)) := ⟨rfl, rfl, rfl, by decide +kernel, rfl, by decide +kernel, by decide +kernel⟩
def d_law_mix : He.DefD := ⟨("_law_mix", none), "_law_mix", "_law_mix", defArgs (top 28), defBody (top 28), defScope (top 28), [], []⟩
def t_law_draw : Tb := { t0 with N := [(Str.ofString "_law_hand_here"), (Str.ofString "_law_many"), (Str.ofString "_law_cell"), (Str.ofString "_law_rest")], sc := defScope (top 30) }
theorem ck_law_draw : chkSs t_law_draw m_law_draw (defBody (top 30)) = true := by decide +kernel
theorem sc_law_draw : FnScope t_law_draw.N [(Str.ofString "_law_hand_here"), (Str.ofString "_law_many")] (defScope (top 30)) := ⟨rfl, rfl, rfl, by decide +kernel, rfl, by decide +kernel, by decide +kernel⟩
def d_law_draw : He.DefD := ⟨("_law_draw", none), "_law_draw", "_law_draw", defArgs (top 30), defBody (top 30), defScope (top 30), [], []⟩
def t_law_gcd : Tb := { t0 with N := [(Str.ofString "_law_one"), (Str.ofString "_law_other"), (Str.ofString "_law_rest")], sc := defScope (top 31) }
theorem ck_law_gcd : chkSs t_law_gcd m_law_gcd (defBody (top 31)) = true := by decide +kernel
theorem sc_law_gcd : FnScope t_law_gcd.N [(Str.ofString "_law_one"), (Str.ofString "_law_other")] (defScope (top 31)) := ⟨rfl, rfl, rfl, by decide +kernel, rfl, by decide +kernel, by decide +kernel⟩
def d_law_gcd : He.DefD := ⟨("_law_gcd", none), "_law_gcd", "_law_gcd", defArgs (top 31), defBody (top 31), defScope (top 31), [], []⟩
def t_law_ratio : Tb := { t0 with N := [(Str.ofString "_law_top"), (Str.ofString "_law_bottom"), (Str.ofString "_law_share")], sc := defScope (top 32) }
theorem ck_law_ratio : chkSs t_law_ratio m_law_ratio (defBody (top 32)) = true := by decide +kernel
theorem sc_law_ratio : FnScope t_law_ratio.N [(Str.ofString "_law_top"), (Str.ofString "_law_bottom")] (defScope (top 32)) := ⟨rfl, rfl, rfl, by decide +kernel, rfl, by decide +kernel, by decide +kernel⟩
def d_law_ratio : He.DefD := ⟨("_law_ratio", none), "_law_ratio", "_law_ratio", defArgs (top 32), defBody (top 32), defScope (top 32), [], []⟩
def t_law_some : Tb := { t0 with N := [(Str.ofString "_law_hand_here"), (Str.ofString "_law_wide"), (Str.ofString "_law_bottom")], sc := defScope (top 39) }
theorem ck_law_some : chkSs t_law_some m_law_some (defBody (top 39)) = true := by decide +kernel
theorem sc_law_some : FnScope t_law_some.N [(Str.ofString "_law_hand_here"), (Str.ofString "_law_wide")] (defScope (top 39)) := ⟨rfl, rfl, rfl, by decide +kernel, rfl, by decide +kernel, by decide +kernel⟩
def d_law_some : He.DefD := ⟨("_law_some", none), "_law_some", "_law_some", defArgs (top 39), defBody (top 39), defScope (top 39), [], []⟩
def t_law_weight : Tb := { t0 with N := [(Str.ofString "_law_hand_here"), (Str.ofString "_law_bottom")], sc := defScope (top 40) }
theorem ck_law_weight : chkSs t_law_weight m_law_weight (defBody (top 40)) = true := by decide +kernel
theorem sc_law_weight : FnScope t_law_weight.N [(Str.ofString "_law_hand_here")] (defScope (top 40)) := ⟨rfl, rfl, rfl, by decide +kernel, rfl, by decide +kernel, by decide +kernel⟩
def d_law_weight : He.DefD := ⟨("_law_weight", none), "_law_weight", "_law_weight", defArgs (top 40), defBody (top 40), defScope (top 40), [], []⟩
def t_law_slot_rows : Tb := { t0 with N := [(Str.ofString "_law_hand_here"), (Str.ofString "_law_rows"), (Str.ofString "_law_wide"), (Str.ofString "_law_k"), (Str.ofString "_law_place")], sc := defScope (top 41) }
theorem ck_law_slot_rows : chkSs t_law_slot_rows m_law_slot_rows (defBody (top 41)) = true := by decide +kernel
theorem sc_law_slot_rows : FnScope t_law_slot_rows.N [(Str.ofString "_law_hand_here")] (defScope (top 41)) := ⟨rfl, rfl, rfl, by decide +kernel, rfl, by decide +kernel, by decide +kernel⟩
def d_law_slot_rows : He.DefD := ⟨("_law_slot_rows", none), "_law_slot_rows", "_law_slot_rows", defArgs (top 41), defBody (top 41), defScope (top 41), [], []⟩
def t_law_times : Tb := { t0 with N := [(Str.ofString "_law_one"), (Str.ofString "_law_other")], sc := defScope (top 35) }
theorem ck_law_times : chkSs t_law_times m_law_times (defBody (top 35)) = true := by decide +kernel
theorem sc_law_times : FnScope t_law_times.N [(Str.ofString "_law_one"), (Str.ofString "_law_other")] (defScope (top 35)) := ⟨rfl, rfl, rfl, by decide +kernel, rfl, by decide +kernel, by decide +kernel⟩
def d_law_times : He.DefD := ⟨("_law_times", none), "_law_times", "_law_times", defArgs (top 35), defBody (top 35), defScope (top 35), [], []⟩
def t_law_plus : Tb := { t0 with N := [(Str.ofString "_law_one"), (Str.ofString "_law_other")], sc := defScope (top 33) }
theorem ck_law_plus : chkSs t_law_plus m_law_plus (defBody (top 33)) = true := by decide +kernel
theorem sc_law_plus : FnScope t_law_plus.N [(Str.ofString "_law_one"), (Str.ofString "_law_other")] (defScope (top 33)) := ⟨rfl, rfl, rfl, by decide +kernel, rfl, by decide +kernel, by decide +kernel⟩
def d_law_plus : He.DefD := ⟨("_law_plus", none), "_law_plus", "_law_plus", defArgs (top 33), defBody (top 33), defScope (top 33), [], []⟩
def t_law_sum : Tb := { t0 with N := [(Str.ofString "_law_ratios"), (Str.ofString "_law_total"), (Str.ofString "_law_one")], sc := defScope (top 42) }
theorem ck_law_sum : chkSs t_law_sum m_law_sum (defBody (top 42)) = true := by decide +kernel
theorem sc_law_sum : FnScope t_law_sum.N [(Str.ofString "_law_ratios")] (defScope (top 42)) := ⟨rfl, rfl, rfl, by decide +kernel, rfl, by decide +kernel, by decide +kernel⟩
def d_law_sum : He.DefD := ⟨("_law_sum", none), "_law_sum", "_law_sum", defArgs (top 42), defBody (top 42), defScope (top 42), [], []⟩
def t_law_most : Tb := { t0 with N := [(Str.ofString "_law_hand_here"), (Str.ofString "_law_rows"), (Str.ofString "_law_weight_here"), (Str.ofString "_law_place")], sc := defScope (top 43) }
theorem ck_law_most : chkSs t_law_most m_law_most (defBody (top 43)) = true := by decide +kernel
theorem sc_law_most : FnScope t_law_most.N [(Str.ofString "_law_hand_here"), (Str.ofString "_law_rows")] (defScope (top 43)) := ⟨rfl, rfl, rfl, by decide +kernel, rfl, by decide +kernel, by decide +kernel⟩
def d_law_most : He.DefD := ⟨("_law_most", none), "_law_most", "_law_most", defArgs (top 43), defBody (top 43), defScope (top 43), [], []⟩
def t_is_whole : Tb := { t0 with N := [(Str.ofString "thing"), (Str.ofString "low"), (Str.ofString "high")], sc := defScope (top 11) }
theorem ck_is_whole : chkSs t_is_whole m_is_whole (defBody (top 11)) = true := by decide +kernel
theorem sc_is_whole : FnScope t_is_whole.N [(Str.ofString "thing"), (Str.ofString "low"), (Str.ofString "high")] (defScope (top 11)) := ⟨rfl, rfl, rfl, by decide +kernel, rfl, by decide +kernel, by decide +kernel⟩
def d_is_whole : He.DefD := ⟨("is_whole", none), "is_whole", "is_whole", defArgs (top 11), defBody (top 11), defScope (top 11), [.non, .non], []⟩
def t_is_sequence : Tb := { t0 with N := [(Str.ofString "thing"), (Str.ofString "low"), (Str.ofString "high")], sc := defScope (top 10) }
theorem ck_is_sequence : chkSs t_is_sequence m_is_sequence (defBody (top 10)) = true := by decide +kernel
theorem sc_is_sequence : FnScope t_is_sequence.N [(Str.ofString "thing"), (Str.ofString "low"), (Str.ofString "high")] (defScope (top 10)) := ⟨rfl, rfl, rfl, by decide +kernel, rfl, by decide +kernel, by decide +kernel⟩
def d_is_sequence : He.DefD := ⟨("is_sequence", none), "is_sequence", "is_sequence", defArgs (top 10), defBody (top 10), defScope (top 10), [(.int 0), .non], []⟩
def t_is_ratio : Tb := { t0 with N := [(Str.ofString "thing")], sc := defScope (top 12) }
theorem ck_is_ratio : chkSs t_is_ratio m_is_ratio (defBody (top 12)) = true := by decide +kernel
theorem sc_is_ratio : FnScope t_is_ratio.N [(Str.ofString "thing")] (defScope (top 12)) := ⟨rfl, rfl, rfl, by decide +kernel, rfl, by decide +kernel, by decide +kernel⟩
def d_is_ratio : He.DefD := ⟨("is_ratio", none), "is_ratio", "is_ratio", defArgs (top 12), defBody (top 12), defScope (top 12), [], []⟩
def t_compare : Tb := { t0 with N := [(Str.ofString "one"), (Str.ofString "other"), (Str.ofString "gap")], sc := defScope (top 18) }
theorem ck_compare : chkSs t_compare m_compare (defBody (top 18)) = true := by decide +kernel
theorem sc_compare : FnScope t_compare.N [(Str.ofString "one"), (Str.ofString "other")] (defScope (top 18)) := ⟨rfl, rfl, rfl, by decide +kernel, rfl, by decide +kernel, by decide +kernel⟩
def d_compare : He.DefD := ⟨("compare", none), "compare", "compare", defArgs (top 18), defBody (top 18), defScope (top 18), [], []⟩
def t_is_between : Tb := { t0 with N := [(Str.ofString "thing"), (Str.ofString "low"), (Str.ofString "high")], sc := defScope (top 13) }
theorem ck_is_between : chkSs t_is_between m_is_between (defBody (top 13)) = true := by decide +kernel
theorem sc_is_between : FnScope t_is_between.N [(Str.ofString "thing"), (Str.ofString "low"), (Str.ofString "high")] (defScope (top 13)) := ⟨rfl, rfl, rfl, by decide +kernel, rfl, by decide +kernel, by decide +kernel⟩
def d_is_between : He.DefD := ⟨("is_between", none), "is_between", "is_between", defArgs (top 13), defBody (top 13), defScope (top 13), [.non], []⟩
def t_is_above_zero : Tb := { t0 with N := [(Str.ofString "thing")], sc := defScope (top 24) }
theorem ck_is_above_zero : chkSs t_is_above_zero m_is_above_zero (defBody (top 24)) = true := by decide +kernel
theorem sc_is_above_zero : FnScope t_is_above_zero.N [(Str.ofString "thing")] (defScope (top 24)) := ⟨rfl, rfl, rfl, by decide +kernel, rfl, by decide +kernel, by decide +kernel⟩
def d_is_above_zero : He.DefD := ⟨("_is_above_zero", none), "_is_above_zero", "_is_above_zero", defArgs (top 24), defBody (top 24), defScope (top 24), [], []⟩
def t_lowest : Tb := { t0 with N := [(Str.ofString "top"), (Str.ofString "bottom"), (Str.ofString "common")], sc := defScope (top 15) }
theorem ck_lowest : chkSs t_lowest m_lowest (defBody (top 15)) = true := by decide +kernel
theorem sc_lowest : FnScope t_lowest.N [(Str.ofString "top"), (Str.ofString "bottom")] (defScope (top 15)) := ⟨rfl, rfl, rfl, by decide +kernel, rfl, by decide +kernel, by decide +kernel⟩
def d_lowest : He.DefD := ⟨("lowest", none), "lowest", "lowest", defArgs (top 15), defBody (top 15), defScope (top 15), [], []⟩
def t_make_ratio : Tb := { t0 with N := [(Str.ofString "top"), (Str.ofString "bottom")], sc := defScope (top 14) }
theorem ck_make_ratio : chkSs t_make_ratio m_make_ratio (defBody (top 14)) = true := by decide +kernel
theorem sc_make_ratio : FnScope t_make_ratio.N [(Str.ofString "top"), (Str.ofString "bottom")] (defScope (top 14)) := ⟨rfl, rfl, rfl, by decide +kernel, rfl, by decide +kernel, by decide +kernel⟩
def d_make_ratio : He.DefD := ⟨("make_ratio", none), "make_ratio", "make_ratio", defArgs (top 14), defBody (top 14), defScope (top 14), [(.int 1)], []⟩
def t_Slots_init : Tb := { t0 with N := [(Str.ofString "self"), (Str.ofString "rows"), (Str.ofString "most"), (Str.ofString "index"), (Str.ofString "row")], sc := defScope (mth 23 0) }
theorem ck_Slots_init : chkSs t_Slots_init m_Slots_init (defBody (mth 23 0)) = true := by decide +kernel
theorem sc_Slots_init : FnScope t_Slots_init.N [(Str.ofString "self"), (Str.ofString "rows"), (Str.ofString "most")] (defScope (mth 23 0)) := ⟨rfl, rfl, rfl, by decide +kernel, rfl, by decide +kernel, by decide +kernel⟩
def d_Slots_init : He.DefD := ⟨("Slots", some "__init__"), "__init__", "Slots.__init__", defArgs (mth 23 0), defBody (mth 23 0), defScope (mth 23 0), [.non], []⟩
def t_law_pick : Tb := { t0 with N := [(Str.ofString "_law_hand_here"), (Str.ofString "_law_things")], sc := defScope (top 37) }
theorem ck_law_pick : chkSs t_law_pick m_law_pick (defBody (top 37)) = true := by decide +kernel
theorem sc_law_pick : FnScope t_law_pick.N [(Str.ofString "_law_hand_here"), (Str.ofString "_law_things")] (defScope (top 37)) := ⟨rfl, rfl, rfl, by decide +kernel, rfl, by decide +kernel, by decide +kernel⟩
def d_law_pick : He.DefD := ⟨("_law_pick", none), "_law_pick", "_law_pick", defArgs (top 37), defBody (top 37), defScope (top 37), [], []⟩
def t_law_compare : Tb := { t0 with N := [(Str.ofString "_law_one"), (Str.ofString "_law_other"), (Str.ofString "_law_left"), (Str.ofString "_law_right")], sc := defScope (top 36) }
theorem ck_law_compare : chkSs t_law_compare m_law_compare (defBody (top 36)) = true := by decide +kernel
theorem sc_law_compare : FnScope t_law_compare.N [(Str.ofString "_law_one"), (Str.ofString "_law_other")] (defScope (top 36)) := ⟨rfl, rfl, rfl, by decide +kernel, rfl, by decide +kernel, by decide +kernel⟩
def d_law_compare : He.DefD := ⟨("_law_compare", none), "_law_compare", "_law_compare", defArgs (top 36), defBody (top 36), defScope (top 36), [], []⟩
def t_law_amounts : Tb := { t0 with N := [(Str.ofString "_law_hand_here"), (Str.ofString "_law_rows"), (Str.ofString "_law_most_here"), (Str.ofString "_law_amounts_here"), (Str.ofString "_law_place"), (Str.ofString "_law_limit"), (Str.ofString "_law_part"), (Str.ofString "_law_whole"), (Str.ofString "_law_amount")], sc := defScope (top 45) }
theorem ck_law_amounts : chkSs t_law_amounts m_law_amounts27 (defBody (top 45)) = true := by decide +kernel
theorem sc_law_amounts : FnScope t_law_amounts.N [(Str.ofString "_law_hand_here"), (Str.ofString "_law_rows"), (Str.ofString "_law_most_here")] (defScope (top 45)) := ⟨rfl, rfl, rfl, by decide +kernel, rfl, by decide +kernel, by decide +kernel⟩
def d_law_amounts : He.DefD := ⟨("_law_amounts", none), "_law_amounts", "_law_amounts", defArgs (top 45), defBody (top 45), defScope (top 45), [], []⟩
def t_law_cargo_of : Tb := { t0 with N := [(Str.ofString "_law_rows"), (Str.ofString "_law_amounts_here"), (Str.ofString "_law_weight_here"), (Str.ofString "_law_moment"), (Str.ofString "_law_k"), (Str.ofString "_law_amount")], sc := defScope (top 44) }
theorem ck_law_cargo_of : chkSs t_law_cargo_of m_law_cargo_of27 (defBody (top 44)) = true := by decide +kernel
theorem sc_law_cargo_of : FnScope t_law_cargo_of.N [(Str.ofString "_law_rows"), (Str.ofString "_law_amounts_here")] (defScope (top 44)) := ⟨rfl, rfl, rfl, by decide +kernel, rfl, by decide +kernel, by decide +kernel⟩
def d_law_cargo_of : He.DefD := ⟨("_law_cargo_of", none), "_law_cargo_of", "_law_cargo_of", defArgs (top 44), defBody (top 44), defScope (top 44), [], []⟩
def t_law_spoilt : Tb := { t0 with N := [(Str.ofString "_law_hand_here"), (Str.ofString "_law_rows"), (Str.ofString "_law_amounts_here"), (Str.ofString "_law_told"), (Str.ofString "_law_k"), (Str.ofString "_law_sort")], sc := defScope (top 46) }
theorem ck_law_spoilt : chkSs t_law_spoilt m_law_spoilt27 (defBody (top 46)) = true := by decide +kernel
theorem sc_law_spoilt : FnScope t_law_spoilt.N [(Str.ofString "_law_hand_here"), (Str.ofString "_law_rows"), (Str.ofString "_law_amounts_here")] (defScope (top 46)) := ⟨rfl, rfl, rfl, by decide +kernel, rfl, by decide +kernel, by decide +kernel⟩
def d_law_spoilt : He.DefD := ⟨("_law_spoilt", none), "_law_spoilt", "_law_spoilt", defArgs (top 46), defBody (top 46), defScope (top 46), [], []⟩
def t_law_is_ratio : Tb := { t0 with N := [(Str.ofString "_law_thing"), (Str.ofString "_law_part")], sc := defScope (top 38) }
theorem ck_law_is_ratio : chkSs t_law_is_ratio m_law_is_ratio2 (defBody (top 38)) = true := by decide +kernel
theorem sc_law_is_ratio : FnScope t_law_is_ratio.N [(Str.ofString "_law_thing")] (defScope (top 38)) := ⟨rfl, rfl, rfl, by decide +kernel, rfl, by decide +kernel, by decide +kernel⟩
def d_law_is_ratio : He.DefD := ⟨("_law_is_ratio", none), "_law_is_ratio", "_law_is_ratio", defArgs (top 38), defBody (top 38), defScope (top 38), [], []⟩
def t_law_made_due : Tb := { t0 with N := [(Str.ofString "_law_rows"), (Str.ofString "_law_amounts_here"), (Str.ofString "_law_amount")], sc := defScope (top 50) }
theorem ck_law_made_due : chkSs t_law_made_due m_law_made_due27 (defBody (top 50)) = true := by decide +kernel
theorem sc_law_made_due : FnScope t_law_made_due.N [(Str.ofString "_law_rows"), (Str.ofString "_law_amounts_here")] (defScope (top 50)) := ⟨rfl, rfl, rfl, by decide +kernel, rfl, by decide +kernel, by decide +kernel⟩
def d_law_made_due : He.DefD := ⟨("_law_made_due", none), "_law_made_due", "_law_made_due", defArgs (top 50), defBody (top 50), defScope (top 50), [], []⟩
def t_times : Tb := { t0 with N := [(Str.ofString "one"), (Str.ofString "other")], sc := defScope (top 17) }
theorem ck_times : chkSs t_times m_times (defBody (top 17)) = true := by decide +kernel
theorem sc_times : FnScope t_times.N [(Str.ofString "one"), (Str.ofString "other")] (defScope (top 17)) := ⟨rfl, rfl, rfl, by decide +kernel, rfl, by decide +kernel, by decide +kernel⟩
def d_times : He.DefD := ⟨("times", none), "times", "times", defArgs (top 17), defBody (top 17), defScope (top 17), [], []⟩
def t_plus : Tb := { t0 with N := [(Str.ofString "one"), (Str.ofString "other")], sc := defScope (top 16) }
theorem ck_plus : chkSs t_plus m_plus (defBody (top 16)) = true := by decide +kernel
theorem sc_plus : FnScope t_plus.N [(Str.ofString "one"), (Str.ofString "other")] (defScope (top 16)) := ⟨rfl, rfl, rfl, by decide +kernel, rfl, by decide +kernel, by decide +kernel⟩
def d_plus : He.DefD := ⟨("plus", none), "plus", "plus", defArgs (top 16), defBody (top 16), defScope (top 16), [], []⟩
def t_sum_of : Tb := { t0 with N := [(Str.ofString "ratios"), (Str.ofString "left"), (Str.ofString "pairs"), (Str.ofString "at")], sc := defScope (top 19) }
theorem ck_sum_of : chkSs t_sum_of m_sum_of (defBody (top 19)) = true := by decide +kernel
theorem sc_sum_of : FnScope t_sum_of.N [(Str.ofString "ratios")] (defScope (top 19)) := ⟨rfl, rfl, rfl, by decide +kernel, rfl, by decide +kernel, by decide +kernel⟩
def d_sum_of : He.DefD := ⟨("sum_of", none), "sum_of", "sum_of", defArgs (top 19), defBody (top 19), defScope (top 19), [], []⟩
def t_Slots_len : Tb := { t0 with N := [(Str.ofString "self")], sc := defScope (mth 23 1) }
theorem ck_Slots_len : chkSs t_Slots_len m_Slots_len (defBody (mth 23 1)) = true := by decide +kernel
theorem sc_Slots_len : FnScope t_Slots_len.N [(Str.ofString "self")] (defScope (mth 23 1)) := ⟨rfl, rfl, rfl, by decide +kernel, rfl, by decide +kernel, by decide +kernel⟩
def d_Slots_len : He.DefD := ⟨("Slots", some "__len__"), "__len__", "Slots.__len__", defArgs (mth 23 1), defBody (mth 23 1), defScope (mth 23 1), [], []⟩
def t_cargo_by : Tb := { t0 with N := [(Str.ofString "slots"), (Str.ofString "amounts"), (Str.ofString "moments"), (Str.ofString "amount"), (Str.ofString "row")], sc := defScope (top 25) }
theorem ck_cargo_by : chkSs t_cargo_by m_cargo_by (defBody (top 25)) = true := by decide +kernel
theorem sc_cargo_by : FnScope t_cargo_by.N [(Str.ofString "slots"), (Str.ofString "amounts")] (defScope (top 25)) := ⟨rfl, rfl, rfl, by decide +kernel, rfl, by decide +kernel, by decide +kernel⟩
def d_cargo_by : He.DefD := ⟨("cargo_by", none), "cargo_by", "cargo_by", defArgs (top 25), defBody (top 25), defScope (top 25), [], []⟩
def t_check_cargo : Tb := { t0 with N := [(Str.ofString "cargo")], sc := defScope (top 21) }
theorem ck_check_cargo : chkSs t_check_cargo m_check_cargo (defBody (top 21)) = true := by decide +kernel
theorem sc_check_cargo : FnScope t_check_cargo.N [(Str.ofString "cargo")] (defScope (top 21)) := ⟨rfl, rfl, rfl, by decide +kernel, rfl, by decide +kernel, by decide +kernel⟩
def d_check_cargo : He.DefD := ⟨("check_cargo", none), "check_cargo", "check_cargo", defArgs (top 21), defBody (top 21), defScope (top 21), [], []⟩
def t_stowage_fault : Tb := { t0 with N := [(Str.ofString "slots"), (Str.ofString "amounts"), (Str.ofString "cargo"), (Str.ofString "weight"), (Str.ofString "moment"), (Str.ofString "amount"), (Str.ofString "row"), (Str.ofString "whole"), (Str.ofString "turn")], sc := defScope (top 26) }
theorem ck_stowage_fault : chkSs t_stowage_fault m_stowage_fault (defBody (top 26)) = true := by decide +kernel
theorem sc_stowage_fault : FnScope t_stowage_fault.N [(Str.ofString "slots"), (Str.ofString "amounts"), (Str.ofString "cargo")] (defScope (top 26)) := ⟨rfl, rfl, rfl, by decide +kernel, rfl, by decide +kernel, by decide +kernel⟩
def d_stowage_fault : He.DefD := ⟨("stowage_fault", none), "stowage_fault", "stowage_fault", defArgs (top 26), defBody (top 26), defScope (top 26), [], []⟩
def t_law_fault : Tb := { t0 with N := [(Str.ofString "_law_slots"), (Str.ofString "_law_amounts_here"), (Str.ofString "_law_cargo"), (Str.ofString "e")], sc := defScope (top 48) }
theorem ck_law_fault : chkSs t_law_fault m_law_fault27 (defBody (top 48)) = true := by decide +kernel
theorem sc_law_fault : FnScope t_law_fault.N [(Str.ofString "_law_slots"), (Str.ofString "_law_amounts_here"), (Str.ofString "_law_cargo")] (defScope (top 48)) := ⟨rfl, rfl, rfl, by decide +kernel, rfl, by decide +kernel, by decide +kernel⟩
def d_law_fault : He.DefD := ⟨("_law_fault", none), "_law_fault", "_law_fault", defArgs (top 48), defBody (top 48), defScope (top 48), [], []⟩
def t_law_due : Tb := { t0 with N := [(Str.ofString "_law_rows"), (Str.ofString "_law_most_here"), (Str.ofString "_law_amounts_here"), (Str.ofString "_law_cargo"), (Str.ofString "_law_k"), (Str.ofString "_law_amount"), (Str.ofString "_law_made")], sc := defScope (top 47) }
theorem ck_law_due : chkSs t_law_due m_law_due27 (defBody (top 47)) = true := by decide +kernel
theorem sc_law_due : FnScope t_law_due.N [(Str.ofString "_law_rows"), (Str.ofString "_law_most_here"), (Str.ofString "_law_amounts_here"), (Str.ofString "_law_cargo")] (defScope (top 47)) := ⟨rfl, rfl, rfl, by decide +kernel, rfl, by decide +kernel, by decide +kernel⟩
def d_law_due : He.DefD := ⟨("_law_due", none), "_law_due", "_law_due", defArgs (top 47), defBody (top 47), defScope (top 47), [], []⟩
def t_law_made_by : Tb := { t0 with N := [(Str.ofString "_law_slots"), (Str.ofString "_law_amounts_here"), (Str.ofString "e")], sc := defScope (top 49) }
theorem ck_law_made_by : chkSs t_law_made_by m_law_made_by27 (defBody (top 49)) = true := by decide +kernel
theorem sc_law_made_by : FnScope t_law_made_by.N [(Str.ofString "_law_slots"), (Str.ofString "_law_amounts_here")] (defScope (top 49)) := ⟨rfl, rfl, rfl, by decide +kernel, rfl, by decide +kernel, by decide +kernel⟩
def d_law_made_by : He.DefD := ⟨("_law_made_by", none), "_law_made_by", "_law_made_by", defArgs (top 49), defBody (top 49), defScope (top 49), [], []⟩
def t_law_minus : Tb := { t0 with N := [(Str.ofString "_law_one"), (Str.ofString "_law_other")], sc := defScope (top 34) }
theorem ck_law_minus : chkSs t_law_minus m_law_minus (defBody (top 34)) = true := by decide +kernel
theorem sc_law_minus : FnScope t_law_minus.N [(Str.ofString "_law_one"), (Str.ofString "_law_other")] (defScope (top 34)) := ⟨rfl, rfl, rfl, by decide +kernel, rfl, by decide +kernel, by decide +kernel⟩
def d_law_minus : He.DefD := ⟨("_law_minus", none), "_law_minus", "_law_minus", defArgs (top 34), defBody (top 34), defScope (top 34), [], []⟩
def t_law : Tb := { t0 with N := [(Str.ofString "_law_script"), (Str.ofString "_law_hand_here"), (Str.ofString "_law_rows"), (Str.ofString "_law_most_here"), (Str.ofString "_law_slots"), (Str.ofString "_law_amounts_here"), (Str.ofString "_law_cargo"), (Str.ofString "_law_odd"), (Str.ofString "_law_near"), (Str.ofString "_law_full"), (Str.ofString "_law_little"), (Str.ofString "_law_more"), (Str.ofString "_law_other"), (Str.ofString "_law_bad"), (Str.ofString "_law_what"), (Str.ofString "_law_weight_here"), (Str.ofString "_law_place")], sc := defScope (top 51) }
theorem ck_law : chkSs t_law m_law27 (defBody (top 51)) = true := by decide +kernel
theorem sc_law : FnScope t_law.N [(Str.ofString "_law_script")] (defScope (top 51)) := ⟨rfl, rfl, rfl, by decide +kernel, rfl, by decide +kernel, by decide +kernel⟩
def d_law : He.DefD := ⟨("law", none), "law", "law", defArgs (top 51), defBody (top 51), defScope (top 51), [], []⟩
def fnl : List He.DefD := [d_law_hand, d_law_mix, d_law_draw, d_law_gcd, d_law_ratio, d_law_some, d_law_weight, d_law_slot_rows, d_law_times, d_law_plus, d_law_sum, d_law_most, d_is_whole, d_is_sequence, d_is_ratio, d_compare, d_is_between, d_is_above_zero, d_lowest, d_make_ratio, d_Slots_init, d_law_pick, d_law_compare, d_law_amounts, d_law_cargo_of, d_law_spoilt, d_law_is_ratio, d_law_made_due, d_times, d_plus, d_sum_of, d_Slots_len, d_cargo_by, d_check_cargo, d_stowage_fault, d_law_fault, d_law_due, d_law_made_by, d_law_minus, d_law]
def fal : List He.Fa := [.glo "_law_hand", .glo "_law_mix", .glo "_law_draw", .glo "_law_gcd", .glo "_law_ratio", .glo "_law_some", .glo "_law_weight", .glo "_law_slot_rows", .glo "_law_times", .glo "_law_plus", .glo "_law_sum", .glo "_law_most", .glo "is_whole", .glo "is_sequence", .glo "is_ratio", .glo "compare", .glo "is_between", .glo "_is_above_zero", .glo "lowest", .glo "make_ratio", .glo "_law_pick", .glo "_law_compare", .glo "_law_amounts", .glo "_law_cargo_of", .glo "_law_spoilt", .glo "_law_is_ratio", .glo "_law_made_due", .glo "times", .glo "plus", .glo "sum_of", .glo "cargo_by", .glo "check_cargo", .glo "stowage_fault", .glo "_law_fault", .glo "_law_due", .glo "_law_made_by", .glo "_law_minus", .glo "law", .glo "ShipError", .glo "BadRatio", .glo "BadCargo", .glo "BadSlots", .glo "BadAmounts", .glo "Slots", .glo "ZERO"] ++ xnT.map He.Fa.free
def exl (K : PySem.W.Frag) : Bool := (decide (PySem.W.nsIn K mainGlobals "gcd" = some (some (.builtin "math.gcd")))) && ((errB PySem.Challenge.pw_dryholds_k27_stowages_judged K (He.ga K "BadRatio") (He.fAd K ("BadRatio", some "__init__")) ["what"] [0]) && ((errB PySem.Challenge.pw_dryholds_k27_stowages_judged K (He.ga K "BadCargo") (He.fAd K ("BadCargo", some "__init__")) ["what"] [0]) && ((errB PySem.Challenge.pw_dryholds_k27_stowages_judged K (He.ga K "BadSlots") (He.fAd K ("BadSlots", some "__init__")) ["index", "what"] [0, 1]) && ((errB PySem.Challenge.pw_dryholds_k27_stowages_judged K (He.ga K "BadAmounts") (He.fAd K ("BadAmounts", some "__init__")) ["what"] [0]) && ((He.tupB K "ZERO" [.int 0, .int 1]) && ((clsOB K (He.ga K "Slots")) && ((mkB K (He.ga K "Slots") (He.fAd K ("Slots", some "__init__"))) && ((metB K (He.ga K "Slots") "__len__" (He.fAd K ("Slots", some "__len__"))) && ((decide (clsOB K (He.ga K "Slots") = true)) && ((decide (PySem.W.findIn K (.ref (He.ga K "Slots")) "rows" = some none)) && ((decide (PySem.W.findIn K (.ref (He.ga K "Slots")) "most" = some none)) && ((decide (subX K (He.ga K "BadCargo") (He.ga K "BadCargo") = some true)) && ((decide (xfB K (He.ga K "BadCargo") = true)) && ((decide (PySem.W.findIn K (.ref (He.ga K "BadCargo")) "what" = some none)) && ((decide (subX K (He.ga K "BadAmounts") (He.ga K "BadAmounts") = some true)) && ((decide (xfB K (He.ga K "BadAmounts") = true)) && ((decide (PySem.W.findIn K (.ref (He.ga K "BadAmounts")) "what" = some none)) && ((noL K) && (true)))))))))))))))))))
abbrev hk : PySem.W.Hook := DL.hookY 6 fal fnl exl
def v_ZERO : D := (.tup [(.int 0), (.int 1)])
def gv0 (K : PySem.W.Frag) : Nat → GV
  | 0 => .cls (He.ga K "ShipError")
  | 1 => .err (He.ga K "BadRatio") [(Str.ofString "what")] [0]
  | 2 => .val v_ZERO
  | 3 => .fn 1 spNo []
  | 4 => .fn 3 spNo [.non, .non]
  | 5 => .fn 1 spNo []
  | 6 => .fn 2 spNo [(.int 1)]
  | 7 => .fn 2 spNo []
  | 8 => .fn 2 spNo []
  | 9 => .fn 1 spNo []
  | 10 => .fn 2 spNo []
  | 11 => .fn 1 spNo []
  | 12 => .fn 1 spNo []
  | 13 => .fn 2 spNo []
  | 14 => .fn 1 spNo []
  | 15 => .fn 1 spNo []
  | 16 => .fn 1 spNo []
  | 17 => .fn 1 spNo []
  | 18 => .fn 1 spNo []
  | 19 => .fn 2 spNo []
  | 20 => .fn 1 spNo []
  | 21 => .fn 2 spNo []
  | 22 => .fn 2 spNo []
  | 23 => .fn 2 spNo []
  | 24 => .fn 2 spNo []
  | 25 => .fn 2 spNo []
  | 26 => .fn 2 spNo []
  | 27 => .fn 2 spNo []
  | 28 => .fn 1 spNo []
  | 29 => .fn 1 spNo []
  | 30 => .fn 1 spNo []
  | 31 => .fn 1 spNo []
  | 32 => .fn 1 spNo []
  | 33 => .fn 1 spNo []
  | 34 => .fn 1 spNo []
  | 35 => .fn 1 spNo []
  | 36 => .fn 1 spNo []
  | 37 => .fn 1 spNo []
  | 38 => .fn 1 spNo []
  | 39 => .err (He.ga K "BadCargo") [(Str.ofString "what")] [0]
  | 40 => .err (He.ga K "BadSlots") [(Str.ofString "index"), (Str.ofString "what")] [0, 1]
  | 41 => .err (He.ga K "BadAmounts") [(Str.ofString "what")] [0]
  | 42 => .fn 3 spNo [(.int 0), .non]
  | 43 => .fn 3 spNo [.non]
  | 44 => .fn 1 spNo []
  | 45 => .cla (He.ga K "Slots") none
  | 46 => .fn 1 spNo []
  | 47 => .fn 2 spNo []
  | 48 => .fn 3 spNo []
  | 49 => .fn 2 spNo []
  | 50 => .fn 2 spNo []
  | 51 => .fn 1 spNo []
  | 52 => .fn 1 spNo []
  | 53 => .fn 1 spNo []
  | 54 => .fn 2 spNo []
  | 55 => .fn 2 spNo []
  | 56 => .fn 3 spNo []
  | 57 => .fn 3 spNo []
  | 58 => .fn 4 spNo []
  | 59 => .fn 3 spNo []
  | 60 => .fn 2 spNo []
  | 61 => .fn 2 spNo []
  | 62 => .fn 1 spNo []
  | 63 => .fn 1 spNo []
  | 64 => .fn 1 spNo []
  | 65 => .fn 1 spNo []
  | 66 => .fn 1 spNo []
  | 67 => .fn 1 spNo []
  | 68 => .fn 1 spNo []
  | 69 => .fn 1 spNo []
  | 70 => .fn 1 spNo []
  | _ => .val .non
def kwc0 : Nat → Nat → List Str → Option (List (Sum Nat D)) := fun g np ks => none
theorem fg_law_hand {K : PySem.W.Frag} {h : Heap} {mg : Str → Option Value} (X : K.In h) (G : h.Ns mainGlobals mg) (c : He.SaysD fal fnl K) : ∃ fd, FunD K "_law_hand" "_law_hand" (defArgs (top 29)) (defBody (top 29)) (defScope (top 29)) (d_law_hand.dvs K) [] (He.ga K "_law_hand") fd ∧ FnG K mg "_law_hand" 1 0 [] (He.ga K "_law_hand") fd [(Str.ofString "_law_script")] := by
  obtain ⟨fd, F⟩ := c.def_ 0 (d := d_law_hand) rfl
  exact ⟨fd, F, fnG0 F (He.glo_ok X G (c.fact 0 (f := .glo "_law_hand") rfl)) rfl fun _ _ _ _ _ _ us hl => match us, hl with | [_], _ => rfl⟩
theorem fg_law_mix {K : PySem.W.Frag} {h : Heap} {mg : Str → Option Value} (X : K.In h) (G : h.Ns mainGlobals mg) (c : He.SaysD fal fnl K) : ∃ fd, FunD K "_law_mix" "_law_mix" (defArgs (top 28)) (defBody (top 28)) (defScope (top 28)) (d_law_mix.dvs K) [] (He.ga K "_law_mix") fd ∧ FnG K mg "_law_mix" 2 0 [] (He.ga K "_law_mix") fd [(Str.ofString "_law_number"), (Str.ofString "_law_turn")] := by
  obtain ⟨fd, F⟩ := c.def_ 1 (d := d_law_mix) rfl
  exact ⟨fd, F, fnG0 F (He.glo_ok X G (c.fact 1 (f := .glo "_law_mix") rfl)) rfl fun _ _ _ _ _ _ us hl => match us, hl with | [_, _], _ => rfl⟩
theorem fg_law_draw {K : PySem.W.Frag} {h : Heap} {mg : Str → Option Value} (X : K.In h) (G : h.Ns mainGlobals mg) (c : He.SaysD fal fnl K) : ∃ fd, FunD K "_law_draw" "_law_draw" (defArgs (top 30)) (defBody (top 30)) (defScope (top 30)) (d_law_draw.dvs K) [] (He.ga K "_law_draw") fd ∧ FnG K mg "_law_draw" 2 0 [] (He.ga K "_law_draw") fd [(Str.ofString "_law_hand_here"), (Str.ofString "_law_many")] := by
  obtain ⟨fd, F⟩ := c.def_ 2 (d := d_law_draw) rfl
  exact ⟨fd, F, fnG0 F (He.glo_ok X G (c.fact 2 (f := .glo "_law_draw") rfl)) rfl fun _ _ _ _ _ _ us hl => match us, hl with | [_, _], _ => rfl⟩
theorem fg_law_gcd {K : PySem.W.Frag} {h : Heap} {mg : Str → Option Value} (X : K.In h) (G : h.Ns mainGlobals mg) (c : He.SaysD fal fnl K) : ∃ fd, FunD K "_law_gcd" "_law_gcd" (defArgs (top 31)) (defBody (top 31)) (defScope (top 31)) (d_law_gcd.dvs K) [] (He.ga K "_law_gcd") fd ∧ FnG K mg "_law_gcd" 2 0 [] (He.ga K "_law_gcd") fd [(Str.ofString "_law_one"), (Str.ofString "_law_other")] := by
  obtain ⟨fd, F⟩ := c.def_ 3 (d := d_law_gcd) rfl
  exact ⟨fd, F, fnG0 F (He.glo_ok X G (c.fact 3 (f := .glo "_law_gcd") rfl)) rfl fun _ _ _ _ _ _ us hl => match us, hl with | [_, _], _ => rfl⟩
theorem fg_law_ratio {K : PySem.W.Frag} {h : Heap} {mg : Str → Option Value} (X : K.In h) (G : h.Ns mainGlobals mg) (c : He.SaysD fal fnl K) : ∃ fd, FunD K "_law_ratio" "_law_ratio" (defArgs (top 32)) (defBody (top 32)) (defScope (top 32)) (d_law_ratio.dvs K) [] (He.ga K "_law_ratio") fd ∧ FnG K mg "_law_ratio" 2 0 [] (He.ga K "_law_ratio") fd [(Str.ofString "_law_top"), (Str.ofString "_law_bottom")] := by
  obtain ⟨fd, F⟩ := c.def_ 4 (d := d_law_ratio) rfl
  exact ⟨fd, F, fnG0 F (He.glo_ok X G (c.fact 4 (f := .glo "_law_ratio") rfl)) rfl fun _ _ _ _ _ _ us hl => match us, hl with | [_, _], _ => rfl⟩
theorem fg_law_some {K : PySem.W.Frag} {h : Heap} {mg : Str → Option Value} (X : K.In h) (G : h.Ns mainGlobals mg) (c : He.SaysD fal fnl K) : ∃ fd, FunD K "_law_some" "_law_some" (defArgs (top 39)) (defBody (top 39)) (defScope (top 39)) (d_law_some.dvs K) [] (He.ga K "_law_some") fd ∧ FnG K mg "_law_some" 2 0 [] (He.ga K "_law_some") fd [(Str.ofString "_law_hand_here"), (Str.ofString "_law_wide")] := by
  obtain ⟨fd, F⟩ := c.def_ 5 (d := d_law_some) rfl
  exact ⟨fd, F, fnG0 F (He.glo_ok X G (c.fact 5 (f := .glo "_law_some") rfl)) rfl fun _ _ _ _ _ _ us hl => match us, hl with | [_, _], _ => rfl⟩
theorem fg_law_weight {K : PySem.W.Frag} {h : Heap} {mg : Str → Option Value} (X : K.In h) (G : h.Ns mainGlobals mg) (c : He.SaysD fal fnl K) : ∃ fd, FunD K "_law_weight" "_law_weight" (defArgs (top 40)) (defBody (top 40)) (defScope (top 40)) (d_law_weight.dvs K) [] (He.ga K "_law_weight") fd ∧ FnG K mg "_law_weight" 1 0 [] (He.ga K "_law_weight") fd [(Str.ofString "_law_hand_here")] := by
  obtain ⟨fd, F⟩ := c.def_ 6 (d := d_law_weight) rfl
  exact ⟨fd, F, fnG0 F (He.glo_ok X G (c.fact 6 (f := .glo "_law_weight") rfl)) rfl fun _ _ _ _ _ _ us hl => match us, hl with | [_], _ => rfl⟩
theorem fg_law_slot_rows {K : PySem.W.Frag} {h : Heap} {mg : Str → Option Value} (X : K.In h) (G : h.Ns mainGlobals mg) (c : He.SaysD fal fnl K) : ∃ fd, FunD K "_law_slot_rows" "_law_slot_rows" (defArgs (top 41)) (defBody (top 41)) (defScope (top 41)) (d_law_slot_rows.dvs K) [] (He.ga K "_law_slot_rows") fd ∧ FnG K mg "_law_slot_rows" 1 0 [] (He.ga K "_law_slot_rows") fd [(Str.ofString "_law_hand_here")] := by
  obtain ⟨fd, F⟩ := c.def_ 7 (d := d_law_slot_rows) rfl
  exact ⟨fd, F, fnG0 F (He.glo_ok X G (c.fact 7 (f := .glo "_law_slot_rows") rfl)) rfl fun _ _ _ _ _ _ us hl => match us, hl with | [_], _ => rfl⟩
theorem fg_law_times {K : PySem.W.Frag} {h : Heap} {mg : Str → Option Value} (X : K.In h) (G : h.Ns mainGlobals mg) (c : He.SaysD fal fnl K) : ∃ fd, FunD K "_law_times" "_law_times" (defArgs (top 35)) (defBody (top 35)) (defScope (top 35)) (d_law_times.dvs K) [] (He.ga K "_law_times") fd ∧ FnG K mg "_law_times" 2 0 [] (He.ga K "_law_times") fd [(Str.ofString "_law_one"), (Str.ofString "_law_other")] := by
  obtain ⟨fd, F⟩ := c.def_ 8 (d := d_law_times) rfl
  exact ⟨fd, F, fnG0 F (He.glo_ok X G (c.fact 8 (f := .glo "_law_times") rfl)) rfl fun _ _ _ _ _ _ us hl => match us, hl with | [_, _], _ => rfl⟩
theorem fg_law_plus {K : PySem.W.Frag} {h : Heap} {mg : Str → Option Value} (X : K.In h) (G : h.Ns mainGlobals mg) (c : He.SaysD fal fnl K) : ∃ fd, FunD K "_law_plus" "_law_plus" (defArgs (top 33)) (defBody (top 33)) (defScope (top 33)) (d_law_plus.dvs K) [] (He.ga K "_law_plus") fd ∧ FnG K mg "_law_plus" 2 0 [] (He.ga K "_law_plus") fd [(Str.ofString "_law_one"), (Str.ofString "_law_other")] := by
  obtain ⟨fd, F⟩ := c.def_ 9 (d := d_law_plus) rfl
  exact ⟨fd, F, fnG0 F (He.glo_ok X G (c.fact 9 (f := .glo "_law_plus") rfl)) rfl fun _ _ _ _ _ _ us hl => match us, hl with | [_, _], _ => rfl⟩
theorem fg_law_sum {K : PySem.W.Frag} {h : Heap} {mg : Str → Option Value} (X : K.In h) (G : h.Ns mainGlobals mg) (c : He.SaysD fal fnl K) : ∃ fd, FunD K "_law_sum" "_law_sum" (defArgs (top 42)) (defBody (top 42)) (defScope (top 42)) (d_law_sum.dvs K) [] (He.ga K "_law_sum") fd ∧ FnG K mg "_law_sum" 1 0 [] (He.ga K "_law_sum") fd [(Str.ofString "_law_ratios")] := by
  obtain ⟨fd, F⟩ := c.def_ 10 (d := d_law_sum) rfl
  exact ⟨fd, F, fnG0 F (He.glo_ok X G (c.fact 10 (f := .glo "_law_sum") rfl)) rfl fun _ _ _ _ _ _ us hl => match us, hl with | [_], _ => rfl⟩
theorem fg_law_most {K : PySem.W.Frag} {h : Heap} {mg : Str → Option Value} (X : K.In h) (G : h.Ns mainGlobals mg) (c : He.SaysD fal fnl K) : ∃ fd, FunD K "_law_most" "_law_most" (defArgs (top 43)) (defBody (top 43)) (defScope (top 43)) (d_law_most.dvs K) [] (He.ga K "_law_most") fd ∧ FnG K mg "_law_most" 2 0 [] (He.ga K "_law_most") fd [(Str.ofString "_law_hand_here"), (Str.ofString "_law_rows")] := by
  obtain ⟨fd, F⟩ := c.def_ 11 (d := d_law_most) rfl
  exact ⟨fd, F, fnG0 F (He.glo_ok X G (c.fact 11 (f := .glo "_law_most") rfl)) rfl fun _ _ _ _ _ _ us hl => match us, hl with | [_, _], _ => rfl⟩
theorem fg_is_whole {K : PySem.W.Frag} {h : Heap} {mg : Str → Option Value} (X : K.In h) (G : h.Ns mainGlobals mg) (c : He.SaysD fal fnl K) : ∃ fd, FunD K "is_whole" "is_whole" (defArgs (top 11)) (defBody (top 11)) (defScope (top 11)) (d_is_whole.dvs K) [] (He.ga K "is_whole") fd ∧ FnG K mg "is_whole" 3 2 [.non, .non] (He.ga K "is_whole") fd [(Str.ofString "thing"), (Str.ofString "low"), (Str.ofString "high")] := by
  obtain ⟨fd, F⟩ := c.def_ 12 (d := d_is_whole) rfl
  refine ⟨fd, F, ⟨He.glo_ok X G (c.fact 12 (f := .glo "is_whole") rfl), F.kp, rfl, rfl, fun j hj => ?_⟩⟩
  match j, hj with
  | 0, _ => obtain ⟨ds, v, b⟩ := F.binds1 (ps := [(Str.ofString "thing"), (Str.ofString "low"), (Str.ofString "high")]) 3 2 (by intro z; cases z) rfl (fun _ _ _ _ _ _ _ us its h1 h2 => match us, its, h1, h2 with | [_, _, _], [_, _], _, _ => ⟨_, rfl, by kernel_rfl⟩); exact ⟨_, ds, b, v, fun H => .nil⟩
  | 1, _ => obtain ⟨ds, v, b⟩ := F.binds1 (ps := [(Str.ofString "thing"), (Str.ofString "low"), (Str.ofString "high")]) 2 1 (by intro z; cases z) rfl (fun _ _ _ _ _ _ _ us its h1 h2 => match us, its, h1, h2 with | [_, _], [_, _], _, _ => ⟨_, rfl, by kernel_rfl⟩); exact ⟨_, ds, b, v, fun H => (.cons .non .nil)⟩
  | 2, _ => obtain ⟨ds, v, b⟩ := F.binds1 (ps := [(Str.ofString "thing"), (Str.ofString "low"), (Str.ofString "high")]) 1 0 (by intro z; cases z) rfl (fun _ _ _ _ _ _ _ us its h1 h2 => match us, its, h1, h2 with | [_], [_, _], _, _ => ⟨_, rfl, by kernel_rfl⟩); exact ⟨_, ds, b, v, fun H => (.cons .non (.cons .non .nil))⟩
  | j + 3, hj => omega
theorem fg_is_sequence {K : PySem.W.Frag} {h : Heap} {mg : Str → Option Value} (X : K.In h) (G : h.Ns mainGlobals mg) (c : He.SaysD fal fnl K) : ∃ fd, FunD K "is_sequence" "is_sequence" (defArgs (top 10)) (defBody (top 10)) (defScope (top 10)) (d_is_sequence.dvs K) [] (He.ga K "is_sequence") fd ∧ FnG K mg "is_sequence" 3 2 [(.int 0), .non] (He.ga K "is_sequence") fd [(Str.ofString "thing"), (Str.ofString "low"), (Str.ofString "high")] := by
  obtain ⟨fd, F⟩ := c.def_ 13 (d := d_is_sequence) rfl
  refine ⟨fd, F, ⟨He.glo_ok X G (c.fact 13 (f := .glo "is_sequence") rfl), F.kp, rfl, rfl, fun j hj => ?_⟩⟩
  match j, hj with
  | 0, _ => obtain ⟨ds, v, b⟩ := F.binds1 (ps := [(Str.ofString "thing"), (Str.ofString "low"), (Str.ofString "high")]) 3 2 (by intro z; cases z) rfl (fun _ _ _ _ _ _ _ us its h1 h2 => match us, its, h1, h2 with | [_, _, _], [_, _], _, _ => ⟨_, rfl, by kernel_rfl⟩); exact ⟨_, ds, b, v, fun H => .nil⟩
  | 1, _ => obtain ⟨ds, v, b⟩ := F.binds1 (ps := [(Str.ofString "thing"), (Str.ofString "low"), (Str.ofString "high")]) 2 1 (by intro z; cases z) rfl (fun _ _ _ _ _ _ _ us its h1 h2 => match us, its, h1, h2 with | [_, _], [_, _], _, _ => ⟨_, rfl, by kernel_rfl⟩); exact ⟨_, ds, b, v, fun H => (.cons .non .nil)⟩
  | 2, _ => obtain ⟨ds, v, b⟩ := F.binds1 (ps := [(Str.ofString "thing"), (Str.ofString "low"), (Str.ofString "high")]) 1 0 (by intro z; cases z) rfl (fun _ _ _ _ _ _ _ us its h1 h2 => match us, its, h1, h2 with | [_], [_, _], _, _ => ⟨_, rfl, by kernel_rfl⟩); exact ⟨_, ds, b, v, fun H => (.cons (.int _) (.cons .non .nil))⟩
  | j + 3, hj => omega
theorem fg_is_ratio {K : PySem.W.Frag} {h : Heap} {mg : Str → Option Value} (X : K.In h) (G : h.Ns mainGlobals mg) (c : He.SaysD fal fnl K) : ∃ fd, FunD K "is_ratio" "is_ratio" (defArgs (top 12)) (defBody (top 12)) (defScope (top 12)) (d_is_ratio.dvs K) [] (He.ga K "is_ratio") fd ∧ FnG K mg "is_ratio" 1 0 [] (He.ga K "is_ratio") fd [(Str.ofString "thing")] := by
  obtain ⟨fd, F⟩ := c.def_ 14 (d := d_is_ratio) rfl
  exact ⟨fd, F, fnG0 F (He.glo_ok X G (c.fact 14 (f := .glo "is_ratio") rfl)) rfl fun _ _ _ _ _ _ us hl => match us, hl with | [_], _ => rfl⟩
theorem fg_compare {K : PySem.W.Frag} {h : Heap} {mg : Str → Option Value} (X : K.In h) (G : h.Ns mainGlobals mg) (c : He.SaysD fal fnl K) : ∃ fd, FunD K "compare" "compare" (defArgs (top 18)) (defBody (top 18)) (defScope (top 18)) (d_compare.dvs K) [] (He.ga K "compare") fd ∧ FnG K mg "compare" 2 0 [] (He.ga K "compare") fd [(Str.ofString "one"), (Str.ofString "other")] := by
  obtain ⟨fd, F⟩ := c.def_ 15 (d := d_compare) rfl
  exact ⟨fd, F, fnG0 F (He.glo_ok X G (c.fact 15 (f := .glo "compare") rfl)) rfl fun _ _ _ _ _ _ us hl => match us, hl with | [_, _], _ => rfl⟩
theorem fg_is_between {K : PySem.W.Frag} {h : Heap} {mg : Str → Option Value} (X : K.In h) (G : h.Ns mainGlobals mg) (c : He.SaysD fal fnl K) : ∃ fd, FunD K "is_between" "is_between" (defArgs (top 13)) (defBody (top 13)) (defScope (top 13)) (d_is_between.dvs K) [] (He.ga K "is_between") fd ∧ FnG K mg "is_between" 3 1 [.non] (He.ga K "is_between") fd [(Str.ofString "thing"), (Str.ofString "low"), (Str.ofString "high")] := by
  obtain ⟨fd, F⟩ := c.def_ 16 (d := d_is_between) rfl
  refine ⟨fd, F, ⟨He.glo_ok X G (c.fact 16 (f := .glo "is_between") rfl), F.kp, rfl, rfl, fun j hj => ?_⟩⟩
  match j, hj with
  | 0, _ => obtain ⟨ds, v, b⟩ := F.binds1 (ps := [(Str.ofString "thing"), (Str.ofString "low"), (Str.ofString "high")]) 3 1 (by intro z; cases z) rfl (fun _ _ _ _ _ _ _ us its h1 h2 => match us, its, h1, h2 with | [_, _, _], [_], _, _ => ⟨_, rfl, by kernel_rfl⟩); exact ⟨_, ds, b, v, fun H => .nil⟩
  | 1, _ => obtain ⟨ds, v, b⟩ := F.binds1 (ps := [(Str.ofString "thing"), (Str.ofString "low"), (Str.ofString "high")]) 2 0 (by intro z; cases z) rfl (fun _ _ _ _ _ _ _ us its h1 h2 => match us, its, h1, h2 with | [_, _], [_], _, _ => ⟨_, rfl, by kernel_rfl⟩); exact ⟨_, ds, b, v, fun H => (.cons .non .nil)⟩
  | j + 2, hj => omega
theorem fg_is_above_zero {K : PySem.W.Frag} {h : Heap} {mg : Str → Option Value} (X : K.In h) (G : h.Ns mainGlobals mg) (c : He.SaysD fal fnl K) : ∃ fd, FunD K "_is_above_zero" "_is_above_zero" (defArgs (top 24)) (defBody (top 24)) (defScope (top 24)) (d_is_above_zero.dvs K) [] (He.ga K "_is_above_zero") fd ∧ FnG K mg "_is_above_zero" 1 0 [] (He.ga K "_is_above_zero") fd [(Str.ofString "thing")] := by
  obtain ⟨fd, F⟩ := c.def_ 17 (d := d_is_above_zero) rfl
  exact ⟨fd, F, fnG0 F (He.glo_ok X G (c.fact 17 (f := .glo "_is_above_zero") rfl)) rfl fun _ _ _ _ _ _ us hl => match us, hl with | [_], _ => rfl⟩
theorem fg_lowest {K : PySem.W.Frag} {h : Heap} {mg : Str → Option Value} (X : K.In h) (G : h.Ns mainGlobals mg) (c : He.SaysD fal fnl K) : ∃ fd, FunD K "lowest" "lowest" (defArgs (top 15)) (defBody (top 15)) (defScope (top 15)) (d_lowest.dvs K) [] (He.ga K "lowest") fd ∧ FnG K mg "lowest" 2 0 [] (He.ga K "lowest") fd [(Str.ofString "top"), (Str.ofString "bottom")] := by
  obtain ⟨fd, F⟩ := c.def_ 18 (d := d_lowest) rfl
  exact ⟨fd, F, fnG0 F (He.glo_ok X G (c.fact 18 (f := .glo "lowest") rfl)) rfl fun _ _ _ _ _ _ us hl => match us, hl with | [_, _], _ => rfl⟩
theorem fg_make_ratio {K : PySem.W.Frag} {h : Heap} {mg : Str → Option Value} (X : K.In h) (G : h.Ns mainGlobals mg) (c : He.SaysD fal fnl K) : ∃ fd, FunD K "make_ratio" "make_ratio" (defArgs (top 14)) (defBody (top 14)) (defScope (top 14)) (d_make_ratio.dvs K) [] (He.ga K "make_ratio") fd ∧ FnG K mg "make_ratio" 2 1 [(.int 1)] (He.ga K "make_ratio") fd [(Str.ofString "top"), (Str.ofString "bottom")] := by
  obtain ⟨fd, F⟩ := c.def_ 19 (d := d_make_ratio) rfl
  refine ⟨fd, F, ⟨He.glo_ok X G (c.fact 19 (f := .glo "make_ratio") rfl), F.kp, rfl, rfl, fun j hj => ?_⟩⟩
  match j, hj with
  | 0, _ => obtain ⟨ds, v, b⟩ := F.binds1 (ps := [(Str.ofString "top"), (Str.ofString "bottom")]) 2 1 (by intro z; cases z) rfl (fun _ _ _ _ _ _ _ us its h1 h2 => match us, its, h1, h2 with | [_, _], [_], _, _ => ⟨_, rfl, by kernel_rfl⟩); exact ⟨_, ds, b, v, fun H => .nil⟩
  | 1, _ => obtain ⟨ds, v, b⟩ := F.binds1 (ps := [(Str.ofString "top"), (Str.ofString "bottom")]) 1 0 (by intro z; cases z) rfl (fun _ _ _ _ _ _ _ us its h1 h2 => match us, its, h1, h2 with | [_], [_], _, _ => ⟨_, rfl, by kernel_rfl⟩); exact ⟨_, ds, b, v, fun H => (.cons (.int _) .nil)⟩
  | j + 2, hj => omega
theorem fg_Slots_init {K : PySem.W.Frag} (c : He.SaysD fal fnl K) : ∃ fd, FunD K "__init__" "Slots.__init__" (defArgs (mth 23 0)) (defBody (mth 23 0)) (defScope (mth 23 0)) (d_Slots_init.dvs K) [] (He.fAd K ("Slots", some "__init__")) fd ∧ DflOk K fd [(Str.ofString "self"), (Str.ofString "rows"), (Str.ofString "most")] [.non] := by
  obtain ⟨fd, F⟩ := c.def_ 20 (d := d_Slots_init) rfl
  refine ⟨fd, F, fun j hj => ?_⟩
  match j, hj with
  | 0, _ => obtain ⟨ds, v, b⟩ := F.binds1 (ps := [(Str.ofString "self"), (Str.ofString "rows"), (Str.ofString "most")]) 3 1 (by intro z; cases z) rfl (fun _ _ _ _ _ _ _ us its h1 h2 => match us, its, h1, h2 with | [_, _, _], [_], _, _ => ⟨_, rfl, by kernel_rfl⟩); exact ⟨_, ds, b, v, fun H => .nil⟩
  | 1, _ => obtain ⟨ds, v, b⟩ := F.binds1 (ps := [(Str.ofString "self"), (Str.ofString "rows"), (Str.ofString "most")]) 2 0 (by intro z; cases z) rfl (fun _ _ _ _ _ _ _ us its h1 h2 => match us, its, h1, h2 with | [_, _], [_], _, _ => ⟨_, rfl, by kernel_rfl⟩); exact ⟨_, ds, b, v, fun H => (.cons .non .nil)⟩
  | j + 2, hj => exact absurd hj (by simp)
theorem fg_law_pick {K : PySem.W.Frag} {h : Heap} {mg : Str → Option Value} (X : K.In h) (G : h.Ns mainGlobals mg) (c : He.SaysD fal fnl K) : ∃ fd, FunD K "_law_pick" "_law_pick" (defArgs (top 37)) (defBody (top 37)) (defScope (top 37)) (d_law_pick.dvs K) [] (He.ga K "_law_pick") fd ∧ FnG K mg "_law_pick" 2 0 [] (He.ga K "_law_pick") fd [(Str.ofString "_law_hand_here"), (Str.ofString "_law_things")] := by
  obtain ⟨fd, F⟩ := c.def_ 21 (d := d_law_pick) rfl
  exact ⟨fd, F, fnG0 F (He.glo_ok X G (c.fact 20 (f := .glo "_law_pick") rfl)) rfl fun _ _ _ _ _ _ us hl => match us, hl with | [_, _], _ => rfl⟩
theorem fg_law_compare {K : PySem.W.Frag} {h : Heap} {mg : Str → Option Value} (X : K.In h) (G : h.Ns mainGlobals mg) (c : He.SaysD fal fnl K) : ∃ fd, FunD K "_law_compare" "_law_compare" (defArgs (top 36)) (defBody (top 36)) (defScope (top 36)) (d_law_compare.dvs K) [] (He.ga K "_law_compare") fd ∧ FnG K mg "_law_compare" 2 0 [] (He.ga K "_law_compare") fd [(Str.ofString "_law_one"), (Str.ofString "_law_other")] := by
  obtain ⟨fd, F⟩ := c.def_ 22 (d := d_law_compare) rfl
  exact ⟨fd, F, fnG0 F (He.glo_ok X G (c.fact 21 (f := .glo "_law_compare") rfl)) rfl fun _ _ _ _ _ _ us hl => match us, hl with | [_, _], _ => rfl⟩
theorem fg_law_amounts {K : PySem.W.Frag} {h : Heap} {mg : Str → Option Value} (X : K.In h) (G : h.Ns mainGlobals mg) (c : He.SaysD fal fnl K) : ∃ fd, FunD K "_law_amounts" "_law_amounts" (defArgs (top 45)) (defBody (top 45)) (defScope (top 45)) (d_law_amounts.dvs K) [] (He.ga K "_law_amounts") fd ∧ FnG K mg "_law_amounts" 3 0 [] (He.ga K "_law_amounts") fd [(Str.ofString "_law_hand_here"), (Str.ofString "_law_rows"), (Str.ofString "_law_most_here")] := by
  obtain ⟨fd, F⟩ := c.def_ 23 (d := d_law_amounts) rfl
  exact ⟨fd, F, fnG0 F (He.glo_ok X G (c.fact 22 (f := .glo "_law_amounts") rfl)) rfl fun _ _ _ _ _ _ us hl => match us, hl with | [_, _, _], _ => rfl⟩
theorem fg_law_cargo_of {K : PySem.W.Frag} {h : Heap} {mg : Str → Option Value} (X : K.In h) (G : h.Ns mainGlobals mg) (c : He.SaysD fal fnl K) : ∃ fd, FunD K "_law_cargo_of" "_law_cargo_of" (defArgs (top 44)) (defBody (top 44)) (defScope (top 44)) (d_law_cargo_of.dvs K) [] (He.ga K "_law_cargo_of") fd ∧ FnG K mg "_law_cargo_of" 2 0 [] (He.ga K "_law_cargo_of") fd [(Str.ofString "_law_rows"), (Str.ofString "_law_amounts_here")] := by
  obtain ⟨fd, F⟩ := c.def_ 24 (d := d_law_cargo_of) rfl
  exact ⟨fd, F, fnG0 F (He.glo_ok X G (c.fact 23 (f := .glo "_law_cargo_of") rfl)) rfl fun _ _ _ _ _ _ us hl => match us, hl with | [_, _], _ => rfl⟩
theorem fg_law_spoilt {K : PySem.W.Frag} {h : Heap} {mg : Str → Option Value} (X : K.In h) (G : h.Ns mainGlobals mg) (c : He.SaysD fal fnl K) : ∃ fd, FunD K "_law_spoilt" "_law_spoilt" (defArgs (top 46)) (defBody (top 46)) (defScope (top 46)) (d_law_spoilt.dvs K) [] (He.ga K "_law_spoilt") fd ∧ FnG K mg "_law_spoilt" 3 0 [] (He.ga K "_law_spoilt") fd [(Str.ofString "_law_hand_here"), (Str.ofString "_law_rows"), (Str.ofString "_law_amounts_here")] := by
  obtain ⟨fd, F⟩ := c.def_ 25 (d := d_law_spoilt) rfl
  exact ⟨fd, F, fnG0 F (He.glo_ok X G (c.fact 24 (f := .glo "_law_spoilt") rfl)) rfl fun _ _ _ _ _ _ us hl => match us, hl with | [_, _, _], _ => rfl⟩
theorem fg_law_is_ratio {K : PySem.W.Frag} {h : Heap} {mg : Str → Option Value} (X : K.In h) (G : h.Ns mainGlobals mg) (c : He.SaysD fal fnl K) : ∃ fd, FunD K "_law_is_ratio" "_law_is_ratio" (defArgs (top 38)) (defBody (top 38)) (defScope (top 38)) (d_law_is_ratio.dvs K) [] (He.ga K "_law_is_ratio") fd ∧ FnG K mg "_law_is_ratio" 1 0 [] (He.ga K "_law_is_ratio") fd [(Str.ofString "_law_thing")] := by
  obtain ⟨fd, F⟩ := c.def_ 26 (d := d_law_is_ratio) rfl
  exact ⟨fd, F, fnG0 F (He.glo_ok X G (c.fact 25 (f := .glo "_law_is_ratio") rfl)) rfl fun _ _ _ _ _ _ us hl => match us, hl with | [_], _ => rfl⟩
theorem fg_law_made_due {K : PySem.W.Frag} {h : Heap} {mg : Str → Option Value} (X : K.In h) (G : h.Ns mainGlobals mg) (c : He.SaysD fal fnl K) : ∃ fd, FunD K "_law_made_due" "_law_made_due" (defArgs (top 50)) (defBody (top 50)) (defScope (top 50)) (d_law_made_due.dvs K) [] (He.ga K "_law_made_due") fd ∧ FnG K mg "_law_made_due" 2 0 [] (He.ga K "_law_made_due") fd [(Str.ofString "_law_rows"), (Str.ofString "_law_amounts_here")] := by
  obtain ⟨fd, F⟩ := c.def_ 27 (d := d_law_made_due) rfl
  exact ⟨fd, F, fnG0 F (He.glo_ok X G (c.fact 26 (f := .glo "_law_made_due") rfl)) rfl fun _ _ _ _ _ _ us hl => match us, hl with | [_, _], _ => rfl⟩
theorem fg_times {K : PySem.W.Frag} {h : Heap} {mg : Str → Option Value} (X : K.In h) (G : h.Ns mainGlobals mg) (c : He.SaysD fal fnl K) : ∃ fd, FunD K "times" "times" (defArgs (top 17)) (defBody (top 17)) (defScope (top 17)) (d_times.dvs K) [] (He.ga K "times") fd ∧ FnG K mg "times" 2 0 [] (He.ga K "times") fd [(Str.ofString "one"), (Str.ofString "other")] := by
  obtain ⟨fd, F⟩ := c.def_ 28 (d := d_times) rfl
  exact ⟨fd, F, fnG0 F (He.glo_ok X G (c.fact 27 (f := .glo "times") rfl)) rfl fun _ _ _ _ _ _ us hl => match us, hl with | [_, _], _ => rfl⟩
theorem fg_plus {K : PySem.W.Frag} {h : Heap} {mg : Str → Option Value} (X : K.In h) (G : h.Ns mainGlobals mg) (c : He.SaysD fal fnl K) : ∃ fd, FunD K "plus" "plus" (defArgs (top 16)) (defBody (top 16)) (defScope (top 16)) (d_plus.dvs K) [] (He.ga K "plus") fd ∧ FnG K mg "plus" 2 0 [] (He.ga K "plus") fd [(Str.ofString "one"), (Str.ofString "other")] := by
  obtain ⟨fd, F⟩ := c.def_ 29 (d := d_plus) rfl
  exact ⟨fd, F, fnG0 F (He.glo_ok X G (c.fact 28 (f := .glo "plus") rfl)) rfl fun _ _ _ _ _ _ us hl => match us, hl with | [_, _], _ => rfl⟩
theorem fg_sum_of {K : PySem.W.Frag} {h : Heap} {mg : Str → Option Value} (X : K.In h) (G : h.Ns mainGlobals mg) (c : He.SaysD fal fnl K) : ∃ fd, FunD K "sum_of" "sum_of" (defArgs (top 19)) (defBody (top 19)) (defScope (top 19)) (d_sum_of.dvs K) [] (He.ga K "sum_of") fd ∧ FnG K mg "sum_of" 1 0 [] (He.ga K "sum_of") fd [(Str.ofString "ratios")] := by
  obtain ⟨fd, F⟩ := c.def_ 30 (d := d_sum_of) rfl
  exact ⟨fd, F, fnG0 F (He.glo_ok X G (c.fact 29 (f := .glo "sum_of") rfl)) rfl fun _ _ _ _ _ _ us hl => match us, hl with | [_], _ => rfl⟩
theorem fg_Slots_len {K : PySem.W.Frag} (c : He.SaysD fal fnl K) : ∃ fd, FunD K "__len__" "Slots.__len__" (defArgs (mth 23 1)) (defBody (mth 23 1)) (defScope (mth 23 1)) (d_Slots_len.dvs K) [] (He.fAd K ("Slots", some "__len__")) fd ∧ DflOk K fd [(Str.ofString "self")] [] := by
  obtain ⟨fd, F⟩ := c.def_ 31 (d := d_Slots_len) rfl
  exact ⟨fd, F, fun j hj => ⟨[], [], F.bindsN (fun _ _ _ _ _ _ us hl => match us, hl with | [_], _ => rfl), .nil, fun H => by rw [List.drop_nil]; exact .nil⟩⟩
theorem fg_cargo_by {K : PySem.W.Frag} {h : Heap} {mg : Str → Option Value} (X : K.In h) (G : h.Ns mainGlobals mg) (c : He.SaysD fal fnl K) : ∃ fd, FunD K "cargo_by" "cargo_by" (defArgs (top 25)) (defBody (top 25)) (defScope (top 25)) (d_cargo_by.dvs K) [] (He.ga K "cargo_by") fd ∧ FnG K mg "cargo_by" 2 0 [] (He.ga K "cargo_by") fd [(Str.ofString "slots"), (Str.ofString "amounts")] := by
  obtain ⟨fd, F⟩ := c.def_ 32 (d := d_cargo_by) rfl
  exact ⟨fd, F, fnG0 F (He.glo_ok X G (c.fact 30 (f := .glo "cargo_by") rfl)) rfl fun _ _ _ _ _ _ us hl => match us, hl with | [_, _], _ => rfl⟩
theorem fg_check_cargo {K : PySem.W.Frag} {h : Heap} {mg : Str → Option Value} (X : K.In h) (G : h.Ns mainGlobals mg) (c : He.SaysD fal fnl K) : ∃ fd, FunD K "check_cargo" "check_cargo" (defArgs (top 21)) (defBody (top 21)) (defScope (top 21)) (d_check_cargo.dvs K) [] (He.ga K "check_cargo") fd ∧ FnG K mg "check_cargo" 1 0 [] (He.ga K "check_cargo") fd [(Str.ofString "cargo")] := by
  obtain ⟨fd, F⟩ := c.def_ 33 (d := d_check_cargo) rfl
  exact ⟨fd, F, fnG0 F (He.glo_ok X G (c.fact 31 (f := .glo "check_cargo") rfl)) rfl fun _ _ _ _ _ _ us hl => match us, hl with | [_], _ => rfl⟩
theorem fg_stowage_fault {K : PySem.W.Frag} {h : Heap} {mg : Str → Option Value} (X : K.In h) (G : h.Ns mainGlobals mg) (c : He.SaysD fal fnl K) : ∃ fd, FunD K "stowage_fault" "stowage_fault" (defArgs (top 26)) (defBody (top 26)) (defScope (top 26)) (d_stowage_fault.dvs K) [] (He.ga K "stowage_fault") fd ∧ FnG K mg "stowage_fault" 3 0 [] (He.ga K "stowage_fault") fd [(Str.ofString "slots"), (Str.ofString "amounts"), (Str.ofString "cargo")] := by
  obtain ⟨fd, F⟩ := c.def_ 34 (d := d_stowage_fault) rfl
  exact ⟨fd, F, fnG0 F (He.glo_ok X G (c.fact 32 (f := .glo "stowage_fault") rfl)) rfl fun _ _ _ _ _ _ us hl => match us, hl with | [_, _, _], _ => rfl⟩
theorem fg_law_fault {K : PySem.W.Frag} {h : Heap} {mg : Str → Option Value} (X : K.In h) (G : h.Ns mainGlobals mg) (c : He.SaysD fal fnl K) : ∃ fd, FunD K "_law_fault" "_law_fault" (defArgs (top 48)) (defBody (top 48)) (defScope (top 48)) (d_law_fault.dvs K) [] (He.ga K "_law_fault") fd ∧ FnG K mg "_law_fault" 3 0 [] (He.ga K "_law_fault") fd [(Str.ofString "_law_slots"), (Str.ofString "_law_amounts_here"), (Str.ofString "_law_cargo")] := by
  obtain ⟨fd, F⟩ := c.def_ 35 (d := d_law_fault) rfl
  exact ⟨fd, F, fnG0 F (He.glo_ok X G (c.fact 33 (f := .glo "_law_fault") rfl)) rfl fun _ _ _ _ _ _ us hl => match us, hl with | [_, _, _], _ => rfl⟩
theorem fg_law_due {K : PySem.W.Frag} {h : Heap} {mg : Str → Option Value} (X : K.In h) (G : h.Ns mainGlobals mg) (c : He.SaysD fal fnl K) : ∃ fd, FunD K "_law_due" "_law_due" (defArgs (top 47)) (defBody (top 47)) (defScope (top 47)) (d_law_due.dvs K) [] (He.ga K "_law_due") fd ∧ FnG K mg "_law_due" 4 0 [] (He.ga K "_law_due") fd [(Str.ofString "_law_rows"), (Str.ofString "_law_most_here"), (Str.ofString "_law_amounts_here"), (Str.ofString "_law_cargo")] := by
  obtain ⟨fd, F⟩ := c.def_ 36 (d := d_law_due) rfl
  exact ⟨fd, F, fnG0 F (He.glo_ok X G (c.fact 34 (f := .glo "_law_due") rfl)) rfl fun _ _ _ _ _ _ us hl => match us, hl with | [_, _, _, _], _ => rfl⟩
theorem fg_law_made_by {K : PySem.W.Frag} {h : Heap} {mg : Str → Option Value} (X : K.In h) (G : h.Ns mainGlobals mg) (c : He.SaysD fal fnl K) : ∃ fd, FunD K "_law_made_by" "_law_made_by" (defArgs (top 49)) (defBody (top 49)) (defScope (top 49)) (d_law_made_by.dvs K) [] (He.ga K "_law_made_by") fd ∧ FnG K mg "_law_made_by" 2 0 [] (He.ga K "_law_made_by") fd [(Str.ofString "_law_slots"), (Str.ofString "_law_amounts_here")] := by
  obtain ⟨fd, F⟩ := c.def_ 37 (d := d_law_made_by) rfl
  exact ⟨fd, F, fnG0 F (He.glo_ok X G (c.fact 35 (f := .glo "_law_made_by") rfl)) rfl fun _ _ _ _ _ _ us hl => match us, hl with | [_, _], _ => rfl⟩
theorem fg_law_minus {K : PySem.W.Frag} {h : Heap} {mg : Str → Option Value} (X : K.In h) (G : h.Ns mainGlobals mg) (c : He.SaysD fal fnl K) : ∃ fd, FunD K "_law_minus" "_law_minus" (defArgs (top 34)) (defBody (top 34)) (defScope (top 34)) (d_law_minus.dvs K) [] (He.ga K "_law_minus") fd ∧ FnG K mg "_law_minus" 2 0 [] (He.ga K "_law_minus") fd [(Str.ofString "_law_one"), (Str.ofString "_law_other")] := by
  obtain ⟨fd, F⟩ := c.def_ 38 (d := d_law_minus) rfl
  exact ⟨fd, F, fnG0 F (He.glo_ok X G (c.fact 36 (f := .glo "_law_minus") rfl)) rfl fun _ _ _ _ _ _ us hl => match us, hl with | [_, _], _ => rfl⟩
theorem fg_law {K : PySem.W.Frag} {h : Heap} {mg : Str → Option Value} (X : K.In h) (G : h.Ns mainGlobals mg) (c : He.SaysD fal fnl K) : ∃ fd, FunD K "law" "law" (defArgs (top 51)) (defBody (top 51)) (defScope (top 51)) (d_law.dvs K) [] (He.ga K "law") fd ∧ FnG K mg "law" 1 0 [] (He.ga K "law") fd [(Str.ofString "_law_script")] := by
  obtain ⟨fd, F⟩ := c.def_ 39 (d := d_law) rfl
  exact ⟨fd, F, fnG0 F (He.glo_ok X G (c.fact 37 (f := .glo "law") rfl)) rfl fun _ _ _ _ _ _ us hl => match us, hl with | [_], _ => rfl⟩
theorem kw_none {g np : Nat} {ks : List Str} {pat : List (Sum Nat D)} (h : kwc0 g np ks = some pat) : False := by
  unfold kwc0 at h
  cases h
theorem gm_ok {w : World} {K : PySem.W.Frag} {h : Heap} {mg : Str → Option Value} {base : Heap} (X : K.In h) (G : h.Ns mainGlobals mg) (c : He.SaysD fal fnl K) (ce : exl K = true) (XB : K.In base) (GB : base.Ns mainGlobals mg) : GM (L2.CX PySem.Challenge.pw_dryholds_k27_stowages_judged w) PySem.Challenge.pw_dryholds_k27_stowages_judged w K mg base t0 (gm0 K (gv0 K) kwc0) 2 := by
  obtain ⟨e0, ce⟩ := bAnd ce
  obtain ⟨e1, ce⟩ := bAnd ce
  obtain ⟨e2, ce⟩ := bAnd ce
  obtain ⟨e3, ce⟩ := bAnd ce
  obtain ⟨e4, ce⟩ := bAnd ce
  obtain ⟨e5, ce⟩ := bAnd ce
  obtain ⟨e6, ce⟩ := bAnd ce
  obtain ⟨e7, ce⟩ := bAnd ce
  obtain ⟨e8, ce⟩ := bAnd ce
  obtain ⟨e9, ce⟩ := bAnd ce
  obtain ⟨e10, ce⟩ := bAnd ce
  obtain ⟨e11, ce⟩ := bAnd ce
  obtain ⟨e12, ce⟩ := bAnd ce
  obtain ⟨e13, ce⟩ := bAnd ce
  obtain ⟨e14, ce⟩ := bAnd ce
  obtain ⟨e15, ce⟩ := bAnd ce
  obtain ⟨e16, ce⟩ := bAnd ce
  obtain ⟨e17, ce⟩ := bAnd ce
  obtain ⟨e18, ce⟩ := bAnd ce
  have hk0 : ∀ g x nk np ks pat n2 sp dfl, t0.gn[g]? = some (x, some nk) → gv0 K g = .fn n2 sp dfl → kwc0 g np ks = some pat → KwOk (L2.CX PySem.Challenge.pw_dryholds_k27_stowages_judged w) PySem.Challenge.pw_dryholds_k27_stowages_judged w K mg base 2 x n2 sp np ks pat := by
    intro g x nk np ks pat n2 sp dfl h1 h2 h3
    cases h3
  refine gm0_ok (fun x hx => He.free_ok X G (c.facts (f := .free x) (List.mem_append_right _ (List.mem_map_of_mem hx)))) (fun hz => PySem.W.mg_of X G (of_decide_eq_true e0)) (fun g x o hg => ?_) hk0 (fun g C i h => ?_)
  rotate_left
  · unfold gv0 at h; split at h <;> first | (cases h; done) | (cases h; rfl)
  match g, hg with
  | 0, hg =>
    have hg : some (((Str.ofString "ShipError"), none) : Str × Option (Nat × Nat)) = some (x, o) := hg
    cases hg
    exact (He.glo_ok X G (c.fact 38 (f := .glo "ShipError") rfl))
  | 1, hg =>
    have hg : some (((Str.ofString "BadRatio"), none) : Str × Option (Nat × Nat)) = some (x, o) := hg
    cases hg
    exact ⟨(He.glo_ok X G (c.fact 39 (f := .glo "BadRatio") rfl)), errB_ok bindI_what e1 GB XB 0⟩
  | 2, hg =>
    have hg : some (((Str.ofString "ZERO"), none) : Str × Option (Nat × Nat)) = some (x, o) := hg
    cases hg
    exact ⟨.ref (He.ga K "ZERO"), .ref (He.ga K "ZERO"), (He.glo_ok X G (c.fact 44 (f := .glo "ZERO") rfl)), rfl, fun H => .tup (He.tupB_ok e5 H) (.cons (.int _) (.cons (.int _) .nil))⟩
  | 3, hg =>
    have hg : some (((Str.ofString "law"), some (1, 0)) : Str × Option (Nat × Nat)) = some (x, o) := hg
    cases hg
    obtain ⟨fd, F, gg⟩ := fg_law X G c
    exact gg.glob fnNo
  | 4, hg =>
    have hg : some (((Str.ofString "is_whole"), some (3, 2)) : Str × Option (Nat × Nat)) = some (x, o) := hg
    cases hg
    obtain ⟨fd, F, gg⟩ := fg_is_whole X G c
    exact gg.glob fnNo
  | 5, hg =>
    have hg : some (((Str.ofString "is_ratio"), some (1, 0)) : Str × Option (Nat × Nat)) = some (x, o) := hg
    cases hg
    obtain ⟨fd, F, gg⟩ := fg_is_ratio X G c
    exact gg.glob fnNo
  | 6, hg =>
    have hg : some (((Str.ofString "make_ratio"), some (2, 1)) : Str × Option (Nat × Nat)) = some (x, o) := hg
    cases hg
    obtain ⟨fd, F, gg⟩ := fg_make_ratio X G c
    exact gg.glob fnNo
  | 7, hg =>
    have hg : some (((Str.ofString "lowest"), some (2, 0)) : Str × Option (Nat × Nat)) = some (x, o) := hg
    cases hg
    obtain ⟨fd, F, gg⟩ := fg_lowest X G c
    exact gg.glob fnNo
  | 8, hg =>
    have hg : some (((Str.ofString "plus"), some (2, 0)) : Str × Option (Nat × Nat)) = some (x, o) := hg
    cases hg
    obtain ⟨fd, F, gg⟩ := fg_plus X G c
    exact gg.glob fnNo
  | 9, hg =>
    have hg : some (((Str.ofString "law"), some (1, 0)) : Str × Option (Nat × Nat)) = some (x, o) := hg
    cases hg
    obtain ⟨fd, F, gg⟩ := fg_law X G c
    exact gg.glob fnNo
  | 10, hg =>
    have hg : some (((Str.ofString "times"), some (2, 0)) : Str × Option (Nat × Nat)) = some (x, o) := hg
    cases hg
    obtain ⟨fd, F, gg⟩ := fg_times X G c
    exact gg.glob fnNo
  | 11, hg =>
    have hg : some (((Str.ofString "law"), some (1, 0)) : Str × Option (Nat × Nat)) = some (x, o) := hg
    cases hg
    obtain ⟨fd, F, gg⟩ := fg_law X G c
    exact gg.glob fnNo
  | 12, hg =>
    have hg : some (((Str.ofString "law"), some (1, 0)) : Str × Option (Nat × Nat)) = some (x, o) := hg
    cases hg
    obtain ⟨fd, F, gg⟩ := fg_law X G c
    exact gg.glob fnNo
  | 13, hg =>
    have hg : some (((Str.ofString "compare"), some (2, 0)) : Str × Option (Nat × Nat)) = some (x, o) := hg
    cases hg
    obtain ⟨fd, F, gg⟩ := fg_compare X G c
    exact gg.glob fnNo
  | 14, hg =>
    have hg : some (((Str.ofString "sum_of"), some (1, 0)) : Str × Option (Nat × Nat)) = some (x, o) := hg
    cases hg
    obtain ⟨fd, F, gg⟩ := fg_sum_of X G c
    exact gg.glob fnNo
  | 15, hg =>
    have hg : some (((Str.ofString "law"), some (1, 0)) : Str × Option (Nat × Nat)) = some (x, o) := hg
    cases hg
    obtain ⟨fd, F, gg⟩ := fg_law X G c
    exact gg.glob fnNo
  | 16, hg =>
    have hg : some (((Str.ofString "law"), some (1, 0)) : Str × Option (Nat × Nat)) = some (x, o) := hg
    cases hg
    obtain ⟨fd, F, gg⟩ := fg_law X G c
    exact gg.glob fnNo
  | 17, hg =>
    have hg : some (((Str.ofString "law"), some (1, 0)) : Str × Option (Nat × Nat)) = some (x, o) := hg
    cases hg
    obtain ⟨fd, F, gg⟩ := fg_law X G c
    exact gg.glob fnNo
  | 18, hg =>
    have hg : some (((Str.ofString "law"), some (1, 0)) : Str × Option (Nat × Nat)) = some (x, o) := hg
    cases hg
    obtain ⟨fd, F, gg⟩ := fg_law X G c
    exact gg.glob fnNo
  | 19, hg =>
    have hg : some (((Str.ofString "_law_mix"), some (2, 0)) : Str × Option (Nat × Nat)) = some (x, o) := hg
    cases hg
    obtain ⟨fd, F, gg⟩ := fg_law_mix X G c
    exact gg.glob fnNo
  | 20, hg =>
    have hg : some (((Str.ofString "_law_hand"), some (1, 0)) : Str × Option (Nat × Nat)) = some (x, o) := hg
    cases hg
    obtain ⟨fd, F, gg⟩ := fg_law_hand X G c
    exact gg.glob fnNo
  | 21, hg =>
    have hg : some (((Str.ofString "_law_draw"), some (2, 0)) : Str × Option (Nat × Nat)) = some (x, o) := hg
    cases hg
    obtain ⟨fd, F, gg⟩ := fg_law_draw X G c
    exact gg.glob fnNo
  | 22, hg =>
    have hg : some (((Str.ofString "_law_gcd"), some (2, 0)) : Str × Option (Nat × Nat)) = some (x, o) := hg
    cases hg
    obtain ⟨fd, F, gg⟩ := fg_law_gcd X G c
    exact gg.glob fnNo
  | 23, hg =>
    have hg : some (((Str.ofString "_law_ratio"), some (2, 0)) : Str × Option (Nat × Nat)) = some (x, o) := hg
    cases hg
    obtain ⟨fd, F, gg⟩ := fg_law_ratio X G c
    exact gg.glob fnNo
  | 24, hg =>
    have hg : some (((Str.ofString "_law_plus"), some (2, 0)) : Str × Option (Nat × Nat)) = some (x, o) := hg
    cases hg
    obtain ⟨fd, F, gg⟩ := fg_law_plus X G c
    exact gg.glob fnNo
  | 25, hg =>
    have hg : some (((Str.ofString "_law_minus"), some (2, 0)) : Str × Option (Nat × Nat)) = some (x, o) := hg
    cases hg
    obtain ⟨fd, F, gg⟩ := fg_law_minus X G c
    exact gg.glob fnNo
  | 26, hg =>
    have hg : some (((Str.ofString "_law_times"), some (2, 0)) : Str × Option (Nat × Nat)) = some (x, o) := hg
    cases hg
    obtain ⟨fd, F, gg⟩ := fg_law_times X G c
    exact gg.glob fnNo
  | 27, hg =>
    have hg : some (((Str.ofString "_law_compare"), some (2, 0)) : Str × Option (Nat × Nat)) = some (x, o) := hg
    cases hg
    obtain ⟨fd, F, gg⟩ := fg_law_compare X G c
    exact gg.glob fnNo
  | 28, hg =>
    have hg : some (((Str.ofString "law"), some (1, 0)) : Str × Option (Nat × Nat)) = some (x, o) := hg
    cases hg
    obtain ⟨fd, F, gg⟩ := fg_law X G c
    exact gg.glob fnNo
  | 29, hg =>
    have hg : some (((Str.ofString "law"), some (1, 0)) : Str × Option (Nat × Nat)) = some (x, o) := hg
    cases hg
    obtain ⟨fd, F, gg⟩ := fg_law X G c
    exact gg.glob fnNo
  | 30, hg =>
    have hg : some (((Str.ofString "_law_is_ratio"), some (1, 0)) : Str × Option (Nat × Nat)) = some (x, o) := hg
    cases hg
    obtain ⟨fd, F, gg⟩ := fg_law_is_ratio X G c
    exact gg.glob fnNo
  | 31, hg =>
    have hg : some (((Str.ofString "law"), some (1, 0)) : Str × Option (Nat × Nat)) = some (x, o) := hg
    cases hg
    obtain ⟨fd, F, gg⟩ := fg_law X G c
    exact gg.glob fnNo
  | 32, hg =>
    have hg : some (((Str.ofString "law"), some (1, 0)) : Str × Option (Nat × Nat)) = some (x, o) := hg
    cases hg
    obtain ⟨fd, F, gg⟩ := fg_law X G c
    exact gg.glob fnNo
  | 33, hg =>
    have hg : some (((Str.ofString "law"), some (1, 0)) : Str × Option (Nat × Nat)) = some (x, o) := hg
    cases hg
    obtain ⟨fd, F, gg⟩ := fg_law X G c
    exact gg.glob fnNo
  | 34, hg =>
    have hg : some (((Str.ofString "law"), some (1, 0)) : Str × Option (Nat × Nat)) = some (x, o) := hg
    cases hg
    obtain ⟨fd, F, gg⟩ := fg_law X G c
    exact gg.glob fnNo
  | 35, hg =>
    have hg : some (((Str.ofString "law"), some (1, 0)) : Str × Option (Nat × Nat)) = some (x, o) := hg
    cases hg
    obtain ⟨fd, F, gg⟩ := fg_law X G c
    exact gg.glob fnNo
  | 36, hg =>
    have hg : some (((Str.ofString "law"), some (1, 0)) : Str × Option (Nat × Nat)) = some (x, o) := hg
    cases hg
    obtain ⟨fd, F, gg⟩ := fg_law X G c
    exact gg.glob fnNo
  | 37, hg =>
    have hg : some (((Str.ofString "law"), some (1, 0)) : Str × Option (Nat × Nat)) = some (x, o) := hg
    cases hg
    obtain ⟨fd, F, gg⟩ := fg_law X G c
    exact gg.glob fnNo
  | 38, hg =>
    have hg : some (((Str.ofString "law"), some (1, 0)) : Str × Option (Nat × Nat)) = some (x, o) := hg
    cases hg
    obtain ⟨fd, F, gg⟩ := fg_law X G c
    exact gg.glob fnNo
  | 39, hg =>
    have hg : some (((Str.ofString "BadCargo"), none) : Str × Option (Nat × Nat)) = some (x, o) := hg
    cases hg
    exact ⟨(He.glo_ok X G (c.fact 40 (f := .glo "BadCargo") rfl)), errB_ok bindI_what e2 GB XB 0⟩
  | 40, hg =>
    have hg : some (((Str.ofString "BadSlots"), none) : Str × Option (Nat × Nat)) = some (x, o) := hg
    cases hg
    exact ⟨(He.glo_ok X G (c.fact 41 (f := .glo "BadSlots") rfl)), errB_ok bindI_index_what e3 GB XB 0⟩
  | 41, hg =>
    have hg : some (((Str.ofString "BadAmounts"), none) : Str × Option (Nat × Nat)) = some (x, o) := hg
    cases hg
    exact ⟨(He.glo_ok X G (c.fact 42 (f := .glo "BadAmounts") rfl)), errB_ok bindI_what e4 GB XB 0⟩
  | 42, hg =>
    have hg : some (((Str.ofString "is_sequence"), some (3, 2)) : Str × Option (Nat × Nat)) = some (x, o) := hg
    cases hg
    obtain ⟨fd, F, gg⟩ := fg_is_sequence X G c
    exact gg.glob fnNo
  | 43, hg =>
    have hg : some (((Str.ofString "is_between"), some (3, 1)) : Str × Option (Nat × Nat)) = some (x, o) := hg
    cases hg
    obtain ⟨fd, F, gg⟩ := fg_is_between X G c
    exact gg.glob fnNo
  | 44, hg =>
    have hg : some (((Str.ofString "check_cargo"), some (1, 0)) : Str × Option (Nat × Nat)) = some (x, o) := hg
    cases hg
    obtain ⟨fd, F, gg⟩ := fg_check_cargo X G c
    exact gg.glob fnNo
  | 45, hg =>
    have hg : some (((Str.ofString "Slots"), none) : Str × Option (Nat × Nat)) = some (x, o) := hg
    cases hg
    exact ⟨(He.glo_ok X G (c.fact 43 (f := .glo "Slots") rfl)), trivial⟩
  | 46, hg =>
    have hg : some (((Str.ofString "_is_above_zero"), some (1, 0)) : Str × Option (Nat × Nat)) = some (x, o) := hg
    cases hg
    obtain ⟨fd, F, gg⟩ := fg_is_above_zero X G c
    exact gg.glob fnNo
  | 47, hg =>
    have hg : some (((Str.ofString "cargo_by"), some (2, 0)) : Str × Option (Nat × Nat)) = some (x, o) := hg
    cases hg
    obtain ⟨fd, F, gg⟩ := fg_cargo_by X G c
    exact gg.glob fnNo
  | 48, hg =>
    have hg : some (((Str.ofString "stowage_fault"), some (3, 0)) : Str × Option (Nat × Nat)) = some (x, o) := hg
    cases hg
    obtain ⟨fd, F, gg⟩ := fg_stowage_fault X G c
    exact gg.glob fnNo
  | 49, hg =>
    have hg : some (((Str.ofString "_law_pick"), some (2, 0)) : Str × Option (Nat × Nat)) = some (x, o) := hg
    cases hg
    obtain ⟨fd, F, gg⟩ := fg_law_pick X G c
    exact gg.glob fnNo
  | 50, hg =>
    have hg : some (((Str.ofString "_law_some"), some (2, 0)) : Str × Option (Nat × Nat)) = some (x, o) := hg
    cases hg
    obtain ⟨fd, F, gg⟩ := fg_law_some X G c
    exact gg.glob fnNo
  | 51, hg =>
    have hg : some (((Str.ofString "_law_weight"), some (1, 0)) : Str × Option (Nat × Nat)) = some (x, o) := hg
    cases hg
    obtain ⟨fd, F, gg⟩ := fg_law_weight X G c
    exact gg.glob fnNo
  | 52, hg =>
    have hg : some (((Str.ofString "_law_slot_rows"), some (1, 0)) : Str × Option (Nat × Nat)) = some (x, o) := hg
    cases hg
    obtain ⟨fd, F, gg⟩ := fg_law_slot_rows X G c
    exact gg.glob fnNo
  | 53, hg =>
    have hg : some (((Str.ofString "_law_sum"), some (1, 0)) : Str × Option (Nat × Nat)) = some (x, o) := hg
    cases hg
    obtain ⟨fd, F, gg⟩ := fg_law_sum X G c
    exact gg.glob fnNo
  | 54, hg =>
    have hg : some (((Str.ofString "_law_most"), some (2, 0)) : Str × Option (Nat × Nat)) = some (x, o) := hg
    cases hg
    obtain ⟨fd, F, gg⟩ := fg_law_most X G c
    exact gg.glob fnNo
  | 55, hg =>
    have hg : some (((Str.ofString "_law_cargo_of"), some (2, 0)) : Str × Option (Nat × Nat)) = some (x, o) := hg
    cases hg
    obtain ⟨fd, F, gg⟩ := fg_law_cargo_of X G c
    exact gg.glob fnNo
  | 56, hg =>
    have hg : some (((Str.ofString "_law_amounts"), some (3, 0)) : Str × Option (Nat × Nat)) = some (x, o) := hg
    cases hg
    obtain ⟨fd, F, gg⟩ := fg_law_amounts X G c
    exact gg.glob fnNo
  | 57, hg =>
    have hg : some (((Str.ofString "_law_spoilt"), some (3, 0)) : Str × Option (Nat × Nat)) = some (x, o) := hg
    cases hg
    obtain ⟨fd, F, gg⟩ := fg_law_spoilt X G c
    exact gg.glob fnNo
  | 58, hg =>
    have hg : some (((Str.ofString "_law_due"), some (4, 0)) : Str × Option (Nat × Nat)) = some (x, o) := hg
    cases hg
    obtain ⟨fd, F, gg⟩ := fg_law_due X G c
    exact gg.glob fnNo
  | 59, hg =>
    have hg : some (((Str.ofString "_law_fault"), some (3, 0)) : Str × Option (Nat × Nat)) = some (x, o) := hg
    cases hg
    obtain ⟨fd, F, gg⟩ := fg_law_fault X G c
    exact gg.glob fnNo
  | 60, hg =>
    have hg : some (((Str.ofString "_law_made_by"), some (2, 0)) : Str × Option (Nat × Nat)) = some (x, o) := hg
    cases hg
    obtain ⟨fd, F, gg⟩ := fg_law_made_by X G c
    exact gg.glob fnNo
  | 61, hg =>
    have hg : some (((Str.ofString "_law_made_due"), some (2, 0)) : Str × Option (Nat × Nat)) = some (x, o) := hg
    cases hg
    obtain ⟨fd, F, gg⟩ := fg_law_made_due X G c
    exact gg.glob fnNo
  | 62, hg =>
    have hg : some (((Str.ofString "law"), some (1, 0)) : Str × Option (Nat × Nat)) = some (x, o) := hg
    cases hg
    obtain ⟨fd, F, gg⟩ := fg_law X G c
    exact gg.glob fnNo
  | 63, hg =>
    have hg : some (((Str.ofString "law"), some (1, 0)) : Str × Option (Nat × Nat)) = some (x, o) := hg
    cases hg
    obtain ⟨fd, F, gg⟩ := fg_law X G c
    exact gg.glob fnNo
  | 64, hg =>
    have hg : some (((Str.ofString "law"), some (1, 0)) : Str × Option (Nat × Nat)) = some (x, o) := hg
    cases hg
    obtain ⟨fd, F, gg⟩ := fg_law X G c
    exact gg.glob fnNo
  | 65, hg =>
    have hg : some (((Str.ofString "law"), some (1, 0)) : Str × Option (Nat × Nat)) = some (x, o) := hg
    cases hg
    obtain ⟨fd, F, gg⟩ := fg_law X G c
    exact gg.glob fnNo
  | 66, hg =>
    have hg : some (((Str.ofString "law"), some (1, 0)) : Str × Option (Nat × Nat)) = some (x, o) := hg
    cases hg
    obtain ⟨fd, F, gg⟩ := fg_law X G c
    exact gg.glob fnNo
  | 67, hg =>
    have hg : some (((Str.ofString "law"), some (1, 0)) : Str × Option (Nat × Nat)) = some (x, o) := hg
    cases hg
    obtain ⟨fd, F, gg⟩ := fg_law X G c
    exact gg.glob fnNo
  | 68, hg =>
    have hg : some (((Str.ofString "law"), some (1, 0)) : Str × Option (Nat × Nat)) = some (x, o) := hg
    cases hg
    obtain ⟨fd, F, gg⟩ := fg_law X G c
    exact gg.glob fnNo
  | 69, hg =>
    have hg : some (((Str.ofString "law"), some (1, 0)) : Str × Option (Nat × Nat)) = some (x, o) := hg
    cases hg
    obtain ⟨fd, F, gg⟩ := fg_law X G c
    exact gg.glob fnNo
  | 70, hg =>
    have hg : some (((Str.ofString "law"), some (1, 0)) : Str × Option (Nat × Nat)) = some (x, o) := hg
    cases hg
    obtain ⟨fd, F, gg⟩ := fg_law X G c
    exact gg.glob fnNo
  | j + 71, hg => exact absurd (show (none : Option (Str × Option (Nat × Nat))) = some (x, o) from hg) (by intro z; cases z)
/-! ### promises and bodies -/
theorem facts {w : World} {K : PySem.W.Frag} {h : Heap} {mg : Str → Option Value} {fa : Addr} (X : K.In h) (G : h.Ns mainGlobals mg) (hfa : mg ("law" : Str) = some (.ref fa)) (c : He.SaysD fal fnl K) (ce : exl K = true) :
    ∃ fd : FuncData, (∀ (s : Shared) (v : Value), BindsTo s fd ⟨[v], []⟩ [("_law_script", v)]) ∧ ∀ base : Heap, K.In base → base.Ns mainGlobals mg → FnOk PySem.Challenge.pw_dryholds_k27_stowages_judged w K mg base (L2.CX PySem.Challenge.pw_dryholds_k27_stowages_judged w) 44 fa fd ["_law_script"] (spLawV K) := by
  obtain ⟨fd_law_hand, F_law_hand, g_law_hand⟩ := fg_law_hand X G c
  obtain ⟨fd_law_mix, F_law_mix, g_law_mix⟩ := fg_law_mix X G c
  obtain ⟨fd_law_draw, F_law_draw, g_law_draw⟩ := fg_law_draw X G c
  obtain ⟨fd_law_gcd, F_law_gcd, g_law_gcd⟩ := fg_law_gcd X G c
  obtain ⟨fd_law_ratio, F_law_ratio, g_law_ratio⟩ := fg_law_ratio X G c
  obtain ⟨fd_law_some, F_law_some, g_law_some⟩ := fg_law_some X G c
  obtain ⟨fd_law_weight, F_law_weight, g_law_weight⟩ := fg_law_weight X G c
  obtain ⟨fd_law_slot_rows, F_law_slot_rows, g_law_slot_rows⟩ := fg_law_slot_rows X G c
  obtain ⟨fd_law_times, F_law_times, g_law_times⟩ := fg_law_times X G c
  obtain ⟨fd_law_plus, F_law_plus, g_law_plus⟩ := fg_law_plus X G c
  obtain ⟨fd_law_sum, F_law_sum, g_law_sum⟩ := fg_law_sum X G c
  obtain ⟨fd_law_most, F_law_most, g_law_most⟩ := fg_law_most X G c
  obtain ⟨fd_is_whole, F_is_whole, g_is_whole⟩ := fg_is_whole X G c
  obtain ⟨fd_is_sequence, F_is_sequence, g_is_sequence⟩ := fg_is_sequence X G c
  obtain ⟨fd_is_ratio, F_is_ratio, g_is_ratio⟩ := fg_is_ratio X G c
  obtain ⟨fd_compare, F_compare, g_compare⟩ := fg_compare X G c
  obtain ⟨fd_is_between, F_is_between, g_is_between⟩ := fg_is_between X G c
  obtain ⟨fd_is_above_zero, F_is_above_zero, g_is_above_zero⟩ := fg_is_above_zero X G c
  obtain ⟨fd_lowest, F_lowest, g_lowest⟩ := fg_lowest X G c
  obtain ⟨fd_make_ratio, F_make_ratio, g_make_ratio⟩ := fg_make_ratio X G c
  obtain ⟨fd_Slots_init, F_Slots_init, g_Slots_init⟩ := fg_Slots_init c
  obtain ⟨fd_law_pick, F_law_pick, g_law_pick⟩ := fg_law_pick X G c
  obtain ⟨fd_law_compare, F_law_compare, g_law_compare⟩ := fg_law_compare X G c
  obtain ⟨fd_law_amounts, F_law_amounts, g_law_amounts⟩ := fg_law_amounts X G c
  obtain ⟨fd_law_cargo_of, F_law_cargo_of, g_law_cargo_of⟩ := fg_law_cargo_of X G c
  obtain ⟨fd_law_spoilt, F_law_spoilt, g_law_spoilt⟩ := fg_law_spoilt X G c
  obtain ⟨fd_law_is_ratio, F_law_is_ratio, g_law_is_ratio⟩ := fg_law_is_ratio X G c
  obtain ⟨fd_law_made_due, F_law_made_due, g_law_made_due⟩ := fg_law_made_due X G c
  obtain ⟨fd_times, F_times, g_times⟩ := fg_times X G c
  obtain ⟨fd_plus, F_plus, g_plus⟩ := fg_plus X G c
  obtain ⟨fd_sum_of, F_sum_of, g_sum_of⟩ := fg_sum_of X G c
  obtain ⟨fd_Slots_len, F_Slots_len, g_Slots_len⟩ := fg_Slots_len c
  obtain ⟨fd_cargo_by, F_cargo_by, g_cargo_by⟩ := fg_cargo_by X G c
  obtain ⟨fd_check_cargo, F_check_cargo, g_check_cargo⟩ := fg_check_cargo X G c
  obtain ⟨fd_stowage_fault, F_stowage_fault, g_stowage_fault⟩ := fg_stowage_fault X G c
  obtain ⟨fd_law_fault, F_law_fault, g_law_fault⟩ := fg_law_fault X G c
  obtain ⟨fd_law_due, F_law_due, g_law_due⟩ := fg_law_due X G c
  obtain ⟨fd_law_made_by, F_law_made_by, g_law_made_by⟩ := fg_law_made_by X G c
  obtain ⟨fd_law_minus, F_law_minus, g_law_minus⟩ := fg_law_minus X G c
  obtain ⟨fd_law, F_law, g_law⟩ := fg_law X G c
  have e := hfa.symm.trans g_law.m
  cases e
  refine ⟨fd_law, fun s v => FunD.bindsA F_law (ps := ["_law_script"]) (fun _ _ _ _ _ _ us hl => match us, hl with | [_], _ => rfl) s [v] rfl, fun base XB GB => ?_⟩
  have g0 := gm_ok (w := w) X G c ce XB GB
  obtain ⟨e0, ce⟩ := bAnd ce
  obtain ⟨e1, ce⟩ := bAnd ce
  obtain ⟨e2, ce⟩ := bAnd ce
  obtain ⟨e3, ce⟩ := bAnd ce
  obtain ⟨e4, ce⟩ := bAnd ce
  obtain ⟨e5, ce⟩ := bAnd ce
  obtain ⟨e6, ce⟩ := bAnd ce
  obtain ⟨e7, ce⟩ := bAnd ce
  obtain ⟨e8, ce⟩ := bAnd ce
  obtain ⟨e9, ce⟩ := bAnd ce
  obtain ⟨e10, ce⟩ := bAnd ce
  obtain ⟨e11, ce⟩ := bAnd ce
  obtain ⟨e12, ce⟩ := bAnd ce
  obtain ⟨e13, ce⟩ := bAnd ce
  obtain ⟨e14, ce⟩ := bAnd ce
  obtain ⟨e15, ce⟩ := bAnd ce
  obtain ⟨e16, ce⟩ := bAnd ce
  obtain ⟨e17, ce⟩ := bAnd ce
  obtain ⟨e18, ce⟩ := bAnd ce
  have hn : noL K = true := e18
  have cS : clsOB K (He.ga K "Slots") = true := of_decide_eq_true e9
  have fr : PySem.W.findIn K (.ref (He.ga K "Slots")) "rows" = some none := of_decide_eq_true e10
  have fm : PySem.W.findIn K (.ref (He.ga K "Slots")) "most" = some none := of_decide_eq_true e11
  have sC : subX K (He.ga K "BadCargo") (He.ga K "BadCargo") = some true := of_decide_eq_true e12
  have xC : xfB K (He.ga K "BadCargo") = true := of_decide_eq_true e13
  have yC : PySem.W.findIn K (.ref (He.ga K "BadCargo")) "what" = some none := of_decide_eq_true e14
  have sA : subX K (He.ga K "BadAmounts") (He.ga K "BadAmounts") = some true := of_decide_eq_true e15
  have xA : xfB K (He.ga K "BadAmounts") = true := of_decide_eq_true e16
  have yA : PySem.W.findIn K (.ref (He.ga K "BadAmounts")) "what" = some none := of_decide_eq_true e17
  have e_mk_Slots_init := e7
  have o_law_hand := fnDD (sp := sp_law_hand) (n := 1) (GM.tb g0 (T' := t_law_hand) rfl rfl rfl) F_law_hand sc_law_hand rfl rfl rfl ck_law_hand pure_law_hand
  have g1 := g0.step (lv' := 3) (by decide) (g := 20) rfl (g_law_hand.glob o_law_hand) (fun np ks pat h => by cases h)
  have o_law_mix := fnDD (sp := sp_mix) (n := 2) (GM.tb g1 (T' := t_law_mix) rfl rfl rfl) F_law_mix sc_law_mix rfl rfl rfl ck_law_mix pure_law_mix
  have g2 := g1.step (lv' := 4) (by decide) (g := 19) rfl (g_law_mix.glob o_law_mix) (fun np ks pat h => by cases h)
  have o_law_draw := fnDD (sp := sp_law_draw) (n := 2) (GM.tb g2 (T' := t_law_draw) rfl rfl rfl) F_law_draw sc_law_draw rfl rfl rfl ck_law_draw (pure_law_draw rfl)
  have g3 := g2.step (lv' := 5) (by decide) (g := 21) rfl (g_law_draw.glob o_law_draw) (fun np ks pat h => by cases h)
  have o_law_gcd := fnDD (sp := sp_law_gcd) (n := 2) (GM.tb g3 (T' := t_law_gcd) rfl rfl rfl) F_law_gcd sc_law_gcd rfl rfl rfl ck_law_gcd pure_law_gcd
  have g4 := g3.step (lv' := 6) (by decide) (g := 22) rfl (g_law_gcd.glob o_law_gcd) (fun np ks pat h => by cases h)
  have o_law_ratio := fnDD (sp := sp_lowest) (n := 2) (GM.tb g4 (T' := t_law_ratio) rfl rfl rfl) F_law_ratio sc_law_ratio rfl rfl rfl ck_law_ratio (pure_law_ratio rfl)
  have g5 := g4.step (lv' := 7) (by decide) (g := 23) rfl (g_law_ratio.glob o_law_ratio) (fun np ks pat h => by cases h)
  have o_law_some := fnDD (sp := sp_law_some) (n := 2) (GM.tb g5 (T' := t_law_some) rfl rfl rfl) F_law_some sc_law_some rfl rfl rfl ck_law_some (pure_law_some rfl rfl)
  have g6 := g5.step (lv' := 8) (by decide) (g := 50) rfl (g_law_some.glob o_law_some) (fun np ks pat h => by cases h)
  have o_law_weight := fnDD (sp := sp_law_weight) (n := 1) (GM.tb g6 (T' := t_law_weight) rfl rfl rfl) F_law_weight sc_law_weight rfl rfl rfl ck_law_weight (pure_law_weight rfl rfl)
  have g7 := g6.step (lv' := 9) (by decide) (g := 51) rfl (g_law_weight.glob o_law_weight) (fun np ks pat h => by cases h)
  have o_law_slot_rows := fnDD (sp := sp_law_slot_rows) (n := 1) (GM.tb g7 (T' := t_law_slot_rows) rfl rfl rfl) F_law_slot_rows sc_law_slot_rows rfl rfl rfl ck_law_slot_rows (pure_law_slot_rows ⟨rfl, rfl, rfl, rfl⟩)
  have g8 := g7.step (lv' := 10) (by decide) (g := 52) rfl (g_law_slot_rows.glob o_law_slot_rows) (fun np ks pat h => by cases h)
  have o_law_times := fnDD (sp := sp_times) (n := 2) (GM.tb g8 (T' := t_law_times) rfl rfl rfl) F_law_times sc_law_times rfl rfl rfl ck_law_times (pure_law_times rfl)
  have g9 := g8.step (lv' := 11) (by decide) (g := 26) rfl (g_law_times.glob o_law_times) (fun np ks pat h => by cases h)
  have o_law_plus := fnDD (sp := sp_plus) (n := 2) (GM.tb g9 (T' := t_law_plus) rfl rfl rfl) F_law_plus sc_law_plus rfl rfl rfl ck_law_plus (pure_law_plus rfl)
  have g10 := g9.step (lv' := 12) (by decide) (g := 24) rfl (g_law_plus.glob o_law_plus) (fun np ks pat h => by cases h)
  have o_law_sum := fnDD (sp := sp_law_sum) (n := 1) (GM.tb g10 (T' := t_law_sum) rfl rfl rfl) F_law_sum sc_law_sum rfl rfl rfl ck_law_sum (pure_law_sum rfl)
  have g11 := g10.step (lv' := 13) (by decide) (g := 53) rfl (g_law_sum.glob o_law_sum) (fun np ks pat h => by cases h)
  have o_law_most := fnDD (sp := sp_law_most) (n := 2) (GM.tb g11 (T' := t_law_most) rfl rfl rfl) F_law_most sc_law_most rfl rfl rfl ck_law_most (pure_law_most ⟨⟨rfl, rfl, rfl, rfl⟩, rfl, rfl⟩)
  have g12 := g11.step (lv' := 14) (by decide) (g := 54) rfl (g_law_most.glob o_law_most) (fun np ks pat h => by cases h)
  have o_is_whole := fnDD (sp := sp_is_whole) (n := 3) (GM.tb g12 (T' := t_is_whole) rfl rfl rfl) F_is_whole sc_is_whole rfl rfl rfl ck_is_whole pure_is_whole
  have g13 := g12.step (lv' := 15) (by decide) (g := 4) rfl (g_is_whole.glob o_is_whole) (fun np ks pat h => by cases h)
  have o_is_sequence := fnDD (sp := sp_is_sequence) (n := 3) (GM.tb g13 (T' := t_is_sequence) rfl rfl rfl) F_is_sequence sc_is_sequence rfl rfl rfl ck_is_sequence (pure_is_sequence rfl)
  have g14 := g13.step (lv' := 16) (by decide) (g := 42) rfl (g_is_sequence.glob o_is_sequence) (fun np ks pat h => by cases h)
  have o_is_ratio := fnDD (sp := sp_is_ratio) (n := 1) (GM.tb g14 (T' := t_is_ratio) rfl rfl rfl) F_is_ratio sc_is_ratio rfl rfl rfl ck_is_ratio (pure_is_ratio rfl)
  have g15 := g14.step (lv' := 17) (by decide) (g := 5) rfl (g_is_ratio.glob o_is_ratio) (fun np ks pat h => by cases h)
  have o_compare := fnDD (sp := sp_compare) (n := 2) (GM.tb g15 (T' := t_compare) rfl rfl rfl) F_compare sc_compare rfl rfl rfl ck_compare pure_compare
  have g16 := g15.step (lv' := 18) (by decide) (g := 13) rfl (g_compare.glob o_compare) (fun np ks pat h => by cases h)
  have o_is_between := fnDD (sp := sp_is_between) (n := 3) (GM.tb g16 (T' := t_is_between) rfl rfl rfl) F_is_between sc_is_between rfl rfl rfl ck_is_between (pure_is_between rfl rfl)
  have g17 := g16.step (lv' := 19) (by decide) (g := 43) rfl (g_is_between.glob o_is_between) (fun np ks pat h => by cases h)
  have o_is_above_zero := fnDD (sp := sp_is_above_zero) (n := 1) (GM.tb g17 (T' := t_is_above_zero) rfl rfl rfl) F_is_above_zero sc_is_above_zero rfl rfl rfl ck_is_above_zero (pure_is_above_zero rfl rfl rfl)
  have g18 := g17.step (lv' := 20) (by decide) (g := 46) rfl (g_is_above_zero.glob o_is_above_zero) (fun np ks pat h => by cases h)
  have o_lowest := fnDD (sp := sp_lowest) (n := 2) (GM.tb g18 (T' := t_lowest) rfl rfl rfl) F_lowest sc_lowest rfl rfl rfl ck_lowest pure_lowest
  have g19 := g18.step (lv' := 21) (by decide) (g := 7) rfl (g_lowest.glob o_lowest) (fun np ks pat h => by cases h)
  have o_make_ratio := fnDD (sp := (sp_make_ratio (He.ga K "BadRatio"))) (n := 2) (GM.tb g19 (T' := t_make_ratio) rfl rfl rfl) F_make_ratio sc_make_ratio rfl rfl rfl ck_make_ratio (pure_make_ratio rfl rfl rfl)
  have g20 := g19.step (lv' := 22) (by decide) (g := 6) rfl (g_make_ratio.glob o_make_ratio) (fun np ks pat h => by cases h)
  have o_Slots_init := fnDD (sp := (sp_Slots (He.ga K "Slots") (He.ga K "BadSlots"))) (n := 3) (GM.tb g20 (T' := t_Slots_init) rfl rfl rfl) F_Slots_init sc_Slots_init rfl rfl rfl ck_Slots_init (pure_Slots_init (CR := (He.ga K "BadRatio")) ⟨rfl, rfl, rfl, rfl, rfl, ⟨cS, fr⟩, ⟨cS, fm⟩⟩)
  have g21 := g20.stepC (lv' := 24) (by decide) (g := 45) (x := "Slots") (C := He.ga K "Slots") (i := some (2, (sp_Slots (He.ga K "Slots") (He.ga K "BadSlots")), [.non])) rfl rfl ⟨He.glo_ok X G (c.fact 43 (f := .glo "Slots") rfl), 23, _, _, _, by decide, mkB_ok e7, o_Slots_init, rfl, g_Slots_init⟩ (fun np ks pat h => by cases h)
  have o_law_pick := fnDD (sp := sp_law_pick) (n := 2) (GM.tb g21 (T' := t_law_pick) rfl rfl rfl) F_law_pick sc_law_pick rfl rfl rfl ck_law_pick (pure_law_pick rfl)
  have g22 := g21.step (lv' := 25) (by decide) (g := 49) rfl (g_law_pick.glob o_law_pick) (fun np ks pat h => by cases h)
  have o_law_compare := fnDD (sp := sp_compare) (n := 2) (GM.tb g22 (T' := t_law_compare) rfl rfl rfl) F_law_compare sc_law_compare rfl rfl rfl ck_law_compare pure_law_compare
  have g23 := g22.step (lv' := 26) (by decide) (g := 27) rfl (g_law_compare.glob o_law_compare) (fun np ks pat h => by cases h)
  have o_law_amounts := fnDD (sp := sp_law_amounts27) (n := 3) (GM.tb g23 (T' := t_law_amounts) rfl rfl rfl) F_law_amounts sc_law_amounts rfl rfl rfl ck_law_amounts (pure_law_amounts27 ⟨⟨⟨rfl, rfl, rfl, rfl⟩, rfl, rfl⟩, rfl, rfl⟩)
  have g24 := g23.step (lv' := 27) (by decide) (g := 56) rfl (g_law_amounts.glob o_law_amounts) (fun np ks pat h => by cases h)
  have o_law_cargo_of := fnDD (sp := sp_law_cargo_of27) (n := 2) (GM.tb g24 (T' := t_law_cargo_of) rfl rfl rfl) F_law_cargo_of sc_law_cargo_of rfl rfl rfl ck_law_cargo_of (pure_law_cargo_of27 ⟨rfl, rfl⟩)
  have g25 := g24.step (lv' := 28) (by decide) (g := 55) rfl (g_law_cargo_of.glob o_law_cargo_of) (fun np ks pat h => by cases h)
  have o_law_spoilt := fnDD (sp := sp_law_spoilt27) (n := 3) (GM.tb g25 (T' := t_law_spoilt) rfl rfl rfl) F_law_spoilt sc_law_spoilt rfl rfl rfl ck_law_spoilt (pure_law_spoilt27 ⟨rfl, rfl, rfl, rfl⟩)
  have g26 := g25.step (lv' := 29) (by decide) (g := 57) rfl (g_law_spoilt.glob o_law_spoilt) (fun np ks pat h => by cases h)
  have o_law_is_ratio := fnDD (sp := sp_is_ratio) (n := 1) (GM.tb g26 (T' := t_law_is_ratio) rfl rfl rfl) F_law_is_ratio sc_law_is_ratio rfl rfl rfl ck_law_is_ratio (pure_law_is_ratio2 rfl)
  have g27 := g26.step (lv' := 30) (by decide) (g := 30) rfl (g_law_is_ratio.glob o_law_is_ratio) (fun np ks pat h => by cases h)
  have o_law_made_due := fnDD (sp := sp_law_made_due27) (n := 2) (GM.tb g27 (T' := t_law_made_due) rfl rfl rfl) F_law_made_due sc_law_made_due rfl rfl rfl ck_law_made_due (pure_law_made_due27 ⟨rfl, rfl, rfl⟩)
  have g28 := g27.step (lv' := 31) (by decide) (g := 61) rfl (g_law_made_due.glob o_law_made_due) (fun np ks pat h => by cases h)
  have o_times := fnDD (sp := sp_times) (n := 2) (GM.tb g28 (T' := t_times) rfl rfl rfl) F_times sc_times rfl rfl rfl ck_times (pure_times rfl)
  have g29 := g28.step (lv' := 32) (by decide) (g := 10) rfl (g_times.glob o_times) (fun np ks pat h => by cases h)
  have o_plus := fnDD (sp := sp_plus) (n := 2) (GM.tb g29 (T' := t_plus) rfl rfl rfl) F_plus sc_plus rfl rfl rfl ck_plus (pure_plus rfl)
  have g30 := g29.step (lv' := 33) (by decide) (g := 8) rfl (g_plus.glob o_plus) (fun np ks pat h => by cases h)
  have o_sum_of := fnDD (sp := sp_sum_of) (n := 1) (GM.tb g30 (T' := t_sum_of) rfl rfl rfl) F_sum_of sc_sum_of rfl rfl rfl ck_sum_of (pure_sum_of rfl rfl)
  have g31 := g30.step (lv' := 34) (by decide) (g := 14) rfl (g_sum_of.glob o_sum_of) (fun np ks pat h => by cases h)
  have o_Slots_len := fnDD (sp := (sp_Slots_len (He.ga K "Slots"))) (n := 1) (GM.tb g31 (T' := t_Slots_len) rfl rfl rfl) F_Slots_len sc_Slots_len rfl rfl rfl ck_Slots_len (pure_Slots_len ⟨cS, fr⟩)
  have g32 := g31.stepM (lv' := 36) (by decide) (g := 45) (C := He.ga K "Slots") rfl (m := "__len__") (n := 0) (sp := (sp_Slots_len (He.ga K "Slots"))) (dfl := []) ⟨35, _, _, _, by decide, clsOB_ok e6, metB_ok e8, o_Slots_len, rfl, g_Slots_len⟩
  have o_cargo_by := fnDD (sp := (sp_cargo_by (He.ga K "Slots") (He.ga K "BadAmounts"))) (n := 2) (GM.tb g32 (T' := t_cargo_by) rfl rfl rfl) F_cargo_by sc_cargo_by rfl rfl rfl ck_cargo_by (pure_cargo_by ⟨rfl, rfl, rfl, rfl, rfl, rfl, rfl, rfl, ⟨cS, fr⟩, ⟨cS, fm⟩⟩)
  have g33 := g32.step (lv' := 37) (by decide) (g := 47) rfl (g_cargo_by.glob o_cargo_by) (fun np ks pat h => by cases h)
  have o_check_cargo := fnDD (sp := (sp_check_cargo (He.ga K "BadCargo"))) (n := 1) (GM.tb g33 (T' := t_check_cargo) rfl rfl rfl) F_check_cargo sc_check_cargo rfl rfl rfl ck_check_cargo (pure_check_cargo rfl rfl rfl rfl rfl)
  have g34 := g33.step (lv' := 38) (by decide) (g := 44) rfl (g_check_cargo.glob o_check_cargo) (fun np ks pat h => by cases h)
  have o_stowage_fault := fnDD (sp := (sp_stowage_fault (He.ga K "Slots") (He.ga K "BadCargo"))) (n := 3) (GM.tb g34 (T' := t_stowage_fault) rfl rfl rfl) F_stowage_fault sc_stowage_fault rfl rfl rfl ck_stowage_fault (pure_stowage_fault ⟨⟨rfl, rfl, rfl, rfl, rfl, rfl, rfl, rfl, ⟨cS, fr⟩, ⟨cS, fm⟩⟩, rfl, rfl, rfl, rfl⟩)
  have g35 := g34.step (lv' := 39) (by decide) (g := 48) rfl (g_stowage_fault.glob o_stowage_fault) (fun np ks pat h => by cases h)
  have o_law_fault := fnDD (sp := (sp_law_fault27 (He.ga K "Slots"))) (n := 3) (GM.tb g35 (T' := t_law_fault) rfl rfl rfl) F_law_fault sc_law_fault rfl rfl rfl ck_law_fault (pure_law_fault27 ⟨rfl, rfl, rfl, rfl, sC, sA, ⟨xC, yC⟩, ⟨xA, yA⟩⟩)
  have g36 := g35.step (lv' := 40) (by decide) (g := 59) rfl (g_law_fault.glob o_law_fault) (fun np ks pat h => by cases h)
  have o_law_due := fnDD (sp := sp_law_due27) (n := 4) (GM.tb g36 (T' := t_law_due) rfl rfl rfl) F_law_due sc_law_due rfl rfl rfl ck_law_due (pure_law_due27 ⟨rfl, rfl, rfl⟩)
  have g37 := g36.step (lv' := 41) (by decide) (g := 58) rfl (g_law_due.glob o_law_due) (fun np ks pat h => by cases h)
  have o_law_made_by := fnDD (sp := (sp_law_made_by27 (He.ga K "Slots"))) (n := 2) (GM.tb g37 (T' := t_law_made_by) rfl rfl rfl) F_law_made_by sc_law_made_by rfl rfl rfl ck_law_made_by (pure_law_made_by27 ⟨rfl, rfl, rfl, rfl, sC, sA, ⟨xC, yC⟩, ⟨xA, yA⟩⟩)
  have g38 := g37.step (lv' := 42) (by decide) (g := 60) rfl (g_law_made_by.glob o_law_made_by) (fun np ks pat h => by cases h)
  have o_law_minus := fnDD (sp := sp_minus) (n := 2) (GM.tb g38 (T' := t_law_minus) rfl rfl rfl) F_law_minus sc_law_minus rfl rfl rfl ck_law_minus (pure_law_minus rfl)
  have g39 := g38.step (lv' := 43) (by decide) (g := 25) rfl (g_law_minus.glob o_law_minus) (fun np ks pat h => by cases h)
  have o_law := fnDD (sp := spLawD) (n := 1) (GM.tb g39 (T' := t_law) rfl rfl rfl) F_law sc_law rfl rfl rfl ck_law (pure_law27 (CA := (He.ga K "BadAmounts")) (CB := (He.ga K "BadSlots")) (CC := (He.ga K "BadCargo")) ⟨rfl, rfl, rfl, rfl, rfl, rfl, rfl, rfl, rfl, rfl, rfl, rfl, rfl, rfl, rfl, rfl, rfl, ⟨cS, fr⟩⟩)
  exact (o_law.imp (law_imp hn)).mono (by decide)
end LW
open PySem PySem.W PySem.Calls PyProof.Rows
theorem PySem.Challenge.cw_dryholds_k27_stowages_judged_holds : PySem.Challenge.rw_dryholds_k27_stowages_judged.Holds := by
  w_on; o_law
  o_head LW.hk
  case hw => w_witness2
  refine DL.walk_bits (l := PySem.Challenge.rw_dryholds_k27_stowages_judged) (n := 63) (k := 44) (x := "_law_script") rfl (by decide) (by kernel_rfl) ⟨rfl, by decide, by decide⟩ ?F
  intro w mg fa h Y G hmg0
  obtain ⟨K, KX, c, ce⟩ := Y
  obtain ⟨fd, hb, hF⟩ := LW.facts (w := w) KX G hmg0 c ce
  exact ⟨K, fd, DL.spLawV K, KX, hb, fun H a ns hl hz _ hS => ⟨a, ns, rfl, hl, hz, hS, fun _ => rfl⟩, fun base b1 b2 => DL.fnOk0 (hF base b1 b2) fun vs H Q E h => h⟩
