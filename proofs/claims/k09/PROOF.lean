import PyProof.Rows.All
import Wide.All
import OpenK.AllK
import Wide.FinOn
import HandS.ForMost
import HandS.IsInst
import HandS.Flow
import HandS.SetFor
import HandS.Strs
import HandS.DeepEq
import HandS.SortInts
import HandS.Zip
import HandS.More
import HandS.Iter
import HandS.Finally
import PySem.Challenge.RW_boundwatch_k09_what_conditions_keep
set_option Elab.async false
set_option linter.all false
set_option maxRecDepth 100000
set_option maxRecDepth 100000
/-! Data, what stands for it in a heap, and what an expression or a statement makes of it. -/
namespace BW
open PySem PySem.Spec L2

/-- data: what a value stands for -/
inductive D where
  | non | bl (b : Bool) | int (i : Int) | str (x : Str)
  | lst (ds : List D) | tup (ds : List D) | dct (kvs : List (Key × D)) | ins (C : Addr) (fs : List (Str × D))
deriving Inhabited

mutual
inductive Rep (K : PySem.W.Frag) (H : Hp) : V → D → Prop
  | non : Rep K H .non .non
  | bl (b : Bool) : Rep K H (.bl b) (.bl b)
  | int (i : Int) : Rep K H (.int i) (.int i)
  | str (x : Str) : Rep K H (.str x) (.str x)
  | lst {a : Addr} {xs : List V} {ds : List D} : SqL K H a xs → RepL K H xs ds → Rep K H (.ref a) (.lst ds)
  | tup {a : Addr} {xs : List V} {ds : List D} : SqT K H a xs → RepL K H xs ds → Rep K H (.ref a) (.tup ds)
  | dct {a : Addr} {xs : List (Key × V)} {ds : List (Key × D)} : Rd H a (.dK xs) → RepK K H xs ds → Rep K H (.ref a) (.dct ds)
  | ins {a C dx : Addr} {xs : List (Str × V)} {ds : List (Str × D)} : H a = some (.ins C dx xs) → RepF K H xs ds → Rep K H (.ref a) (.ins C ds)
inductive RepL (K : PySem.W.Frag) (H : Hp) : List V → List D → Prop
  | nil : RepL K H [] []
  | cons {v : V} {vs : List V} {d : D} {ds : List D} : Rep K H v d → RepL K H vs ds → RepL K H (v :: vs) (d :: ds)
inductive RepK (K : PySem.W.Frag) (H : Hp) : List (Key × V) → List (Key × D) → Prop
  | nil : RepK K H [] []
  | cons {k : Key} {v : V} {vs : List (Key × V)} {d : D} {ds : List (Key × D)} : Rep K H v d → RepK K H vs ds → RepK K H ((k, v) :: vs) ((k, d) :: ds)
inductive RepF (K : PySem.W.Frag) (H : Hp) : List (Str × V) → List (Str × D) → Prop
  | nil : RepF K H [] []
  | cons {k : Str} {v : V} {vs : List (Str × V)} {d : D} {ds : List (Str × D)} : Rep K H v d → RepF K H vs ds → RepF K H ((k, v) :: vs) ((k, d) :: ds)
end

theorem Same.seqT {K : PySem.W.Frag} {H H' : Hp} {a : Addr} {xs : List V} (e : Same H H') (h : SqT K H a xs) : SqT K H' a xs := by
  rcases h with (h | ⟨o, h⟩) | h
  · exact .inl (.inl (e _ _ h))
  · exact .inl (.inr ⟨o, e _ _ h⟩)
  · exact .inr h
theorem Same.rd {H H' : Hp} {a : Addr} {o : HO} (e : Same H H') (h : Rd H a o) : Rd H' a o := by
  rcases h with h | ⟨o', h⟩
  · exact .inl (e _ _ h)
  · exact .inr ⟨o', e _ _ h⟩

mutual
theorem Rep.same {K : PySem.W.Frag} {H H' : Hp} (e : Same H H') : ∀ (d : D) (v : V), Rep K H v d → Rep K H' v d
  | .non, _, h => by cases h; exact .non
  | .bl b, _, h => by cases h; exact .bl b
  | .int i, _, h => by cases h; exact .int i
  | .str x, _, h => by cases h; exact .str x
  | .lst ds, _, h => by
    cases h with
    | lst a b => exact .lst (e.seq a) (RepL.same e ds _ b)
  | .tup ds, _, h => by
    cases h with
    | tup a b => exact .tup (Same.seqT e a) (RepL.same e ds _ b)
  | .dct ds, _, h => by
    cases h with
    | dct a b => exact .dct (Same.rd e a) (RepK.same e ds _ b)
  | .ins C ds, _, h => by
    cases h with
    | ins a b => exact .ins (e _ _ a) (RepF.same e ds _ b)
theorem RepL.same {K : PySem.W.Frag} {H H' : Hp} (e : Same H H') : ∀ (ds : List D) (vs : List V), RepL K H vs ds → RepL K H' vs ds
  | [], _, h => by cases h; exact .nil
  | d :: ds, _, h => by
    cases h with
    | cons a b => exact .cons (Rep.same e d _ a) (RepL.same e ds _ b)
theorem RepK.same {K : PySem.W.Frag} {H H' : Hp} (e : Same H H') : ∀ (ds : List (Key × D)) (vs : List (Key × V)), RepK K H vs ds → RepK K H' vs ds
  | [], _, h => by cases h; exact .nil
  | (_, d) :: ds, _, h => by
    cases h with
    | cons a b => exact .cons (Rep.same e d _ a) (RepK.same e ds _ b)
theorem RepF.same {K : PySem.W.Frag} {H H' : Hp} (e : Same H H') : ∀ (ds : List (Str × D)) (vs : List (Str × V)), RepF K H vs ds → RepF K H' vs ds
  | [], _, h => by cases h; exact .nil
  | (_, d) :: ds, _, h => by
    cases h with
    | cons a b => exact .cons (Rep.same e d _ a) (RepF.same e ds _ b)
end

theorem Rep.up {K : PySem.W.Frag} {H H' : Hp} {v : V} {d : D} (r : Rep K H v d) (e : Same H H') : Rep K H' v d := Rep.same e d v r
theorem RepL.up {K : PySem.W.Frag} {H H' : Hp} {v : List V} {d : List D} (r : RepL K H v d) (e : Same H H') : RepL K H' v d := RepL.same e d v r
theorem RepK.up {K : PySem.W.Frag} {H H' : Hp} {v : List (Key × V)} {d : List (Key × D)} (r : RepK K H v d) (e : Same H H') : RepK K H' v d := RepK.same e d v r

theorem RepL.length {K : PySem.W.Frag} {H : Hp} : ∀ {vs : List V} {ds : List D}, RepL K H vs ds → vs.length = ds.length
  | _, [], h => by cases h; rfl
  | _, d :: ds, h => by
    cases h with
    | cons a b => rw [List.length_cons, List.length_cons, RepL.length b]
theorem RepL.get {K : PySem.W.Frag} {H : Hp} : ∀ {ds : List D} {vs : List V} {i : Nat} {d : D}, RepL K H vs ds → ds[i]? = some d → ∃ v, vs[i]? = some v ∧ Rep K H v d
  | [], _, _, _, _, e => by simp at e
  | d :: ds, _, 0, _, h, e => by
    cases h with
    | cons a b => simp at e; subst e; exact ⟨_, rfl, a⟩
  | d :: ds, _, i + 1, _, h, e => by
    cases h with
    | cons a b =>
      obtain ⟨v, e1, r⟩ := RepL.get (i := i) b (by simpa using e)
      exact ⟨v, by simpa using e1, r⟩
theorem RepL.getV {K : PySem.W.Frag} {H : Hp} : ∀ {ds : List D} {vs : List V} {i : Nat} {v : V}, RepL K H vs ds → vs[i]? = some v → ∃ d, ds[i]? = some d ∧ Rep K H v d
  | [], _, _, _, h, e => by cases h; simp at e
  | d :: ds, _, 0, _, h, e => by
    cases h with
    | cons a b => simp at e; subst e; exact ⟨_, rfl, a⟩
  | d :: ds, _, i + 1, _, h, e => by
    cases h with
    | cons a b =>
      obtain ⟨v, e1, r⟩ := RepL.getV (i := i) b (by simpa using e)
      exact ⟨v, by simpa using e1, r⟩
theorem RepL.append {K : PySem.W.Frag} {H : Hp} : ∀ {ds : List D} {vs : List V} {es : List D} {ws : List V}, RepL K H vs ds → RepL K H ws es → RepL K H (vs ++ ws) (ds ++ es)
  | [], _, _, _, h, g => by cases h; exact g
  | d :: ds, _, _, _, h, g => by
    cases h with
    | cons a b => exact .cons a (RepL.append b g)
theorem RepL.take {K : PySem.W.Frag} {H : Hp} : ∀ {ds : List D} {vs : List V} (n : Nat), RepL K H vs ds → RepL K H (vs.take n) (ds.take n)
  | _, _, 0, _ => by simp only [List.take_zero]; exact .nil
  | [], _, n + 1, h => by cases h; exact .nil
  | d :: ds, _, n + 1, h => by
    cases h with
    | cons a b => exact .cons a (RepL.take n b)
theorem RepL.drop {K : PySem.W.Frag} {H : Hp} : ∀ {ds : List D} {vs : List V} (n : Nat), RepL K H vs ds → RepL K H (vs.drop n) (ds.drop n)
  | _, _, 0, h => h
  | [], _, n + 1, h => by cases h; exact .nil
  | d :: ds, _, n + 1, h => by
    cases h with
    | cons a b => exact RepL.drop n b
theorem RepL.set {K : PySem.W.Frag} {H : Hp} {v : V} {d : D} (r : Rep K H v d) : ∀ {ds : List D} {vs : List V} (n : Nat), RepL K H vs ds → RepL K H (vs.set n v) (ds.set n d)
  | [], _, n, h => by cases h; exact .nil
  | e :: ds, _, 0, h => by
    cases h with
    | cons a b => exact .cons r b
  | e :: ds, _, n + 1, h => by
    cases h with
    | cons a b => exact .cons a (RepL.set r n b)
theorem RepL.ints {K : PySem.W.Frag} {H : Hp} : ∀ {ns : List Int}, RepL K H (ns.map V.int) (ns.map D.int)
  | [] => .nil
  | n :: ns => .cons (.int n) RepL.ints

/-! ### the state: slots by data; shared and owned -/
abbrev Env' := List (Option D)
/-- an owned thing, a list or a dict that nothing else points at -/
def OwnAt (K : PySem.W.Frag) (H0 H : Hp) (p : Addr) : D → Prop
  | .lst ds => ∃ vs, H p = some (.lst vs) ∧ RepL K H0 vs ds
  | .dct ds => ∃ vs, H p = some (.dK vs) ∧ RepK K H0 vs ds
  | _ => False
/-- Hi: the whole heap at the entry; Z: the shared part of it; H0: the shared part now; H: the whole heap now -/
structure Fm where
  i : Hp
  z : Hp
structure Hs (Z : Fm) (H0 H : Hp) : Prop where
  z : Same Z.z H0
  i : Same Z.i H
  s : Same H0 H
  x : ∀ p, H0 p ≠ none → Z.z p ≠ none ∨ Z.i p = none
structure SR (K : PySem.W.Frag) (Z : Fm) (own : List Nat) (σ : St) (H0 H : Hp) (ρ : Env') : Prop where
  len : σ.length = ρ.length
  hs : Hs Z H0 H
  shr : ∀ i d, ρ[i]? = some (some d) → i ∉ own → ∃ v, σ[i]? = some (some v) ∧ Rep K H0 v d
  ownd : ∀ i d, ρ[i]? = some (some d) → i ∈ own → ∃ p, σ[i]? = some (some (V.ref p)) ∧ H0 p = none ∧ Z.i p = none ∧ OwnAt K H0 H p d
  apart : ∀ i j d e p, i ∈ own → j ∈ own → ρ[i]? = some (some d) → ρ[j]? = some (some e) → σ[i]? = some (some (V.ref p)) → σ[j]? = some (some (V.ref p)) → i = j

theorem OwnAt.up {K : PySem.W.Frag} {H0 H H0' H' : Hp} {p : Addr} : ∀ {d : D}, OwnAt K H0 H p d → Same H0 H0' → (∀ o, H p = some o → H' p = some o) → OwnAt K H0' H' p d
  | .lst _, ⟨vs, e, r⟩, s, t => ⟨vs, t _ e, r.up s⟩
  | .dct _, ⟨vs, e, r⟩, s, t => ⟨vs, t _ e, r.up s⟩
  | .non, h, _, _ => h.elim
  | .bl _, h, _, _ => h.elim
  | .int _, h, _, _ => h.elim
  | .str _, h, _, _ => h.elim
  | .tup _, h, _, _ => h.elim
  | .ins _ _, h, _, _ => h.elim
theorem OwnAt.some {K : PySem.W.Frag} {H0 H : Hp} {p : Addr} : ∀ {d : D}, OwnAt K H0 H p d → H p ≠ none
  | .lst _, ⟨vs, e, r⟩ => by rw [e]; exact fun z => nomatch z
  | .dct _, ⟨vs, e, r⟩ => by rw [e]; exact fun z => nomatch z
  | .non, h => h.elim
  | .bl _, h => h.elim
  | .int _, h => h.elim
  | .str _, h => h.elim
  | .tup _, h => h.elim
  | .ins _ _, h => h.elim

section
variable {K : PySem.W.Frag} {Z : Fm} {H0 H H0' H' : Hp} {own : List Nat} {σ : St} {ρ : Env'}
/-- both heaps grow; what is owned stays out of the shared part -/
structure Grow (H0 H H0' H' : Hp) : Prop where
  s0 : Same H0 H0'
  s : Same H H'
  sub : Same H0' H'
  new : ∀ p, H p ≠ none → H0 p = none → H0' p = none
theorem Grow.refl (h : Same H0 H) : Grow H0 H H0 H := ⟨Same.refl _, Same.refl _, h, fun _ _ h => h⟩
theorem Grow.trans {H0'' H'' : Hp} (a : Grow H0 H H0' H') (b : Grow H0' H' H0'' H'') : Grow H0 H H0'' H'' :=
  ⟨a.s0.trans b.s0, a.s.trans b.s, b.sub, fun p h1 h2 => b.new p (fun z => h1 (by
    cases q : H p with
    | none => rfl
    | some o => rw [a.s p o q] at z; cases z)) (a.new p h1 h2)⟩
theorem Hs.grow (h : Hs Z H0 H) (g : Grow H0 H H0' H') : Hs Z H0' H' := by
  refine ⟨h.z.trans g.s0, h.i.trans g.s, g.sub, fun p hp => ?_⟩
  by_cases e : H0 p = none
  · right
    cases q : Z.i p with
    | none => rfl
    | some o =>
      have := g.new p (by rw [h.i p o q]; exact fun z => nomatch z) e
      exact absurd this hp
  · exact h.x p e
theorem SR.grow (h : SR K Z own σ H0 H ρ) (g : Grow H0 H H0' H') : SR K Z own σ H0' H' ρ := by
  refine ⟨h.len, h.hs.grow g, fun i d e n => ?_, fun i d e n => ?_, h.apart⟩
  · obtain ⟨v, a, r⟩ := h.shr i d e n
    exact ⟨v, a, r.up g.s0⟩
  · obtain ⟨p, a, b, c, o⟩ := h.ownd i d e n
    exact ⟨p, a, g.new p o.some b, c, o.up g.s0 (g.s p)⟩
/-- a new object, shared -/
theorem Grow.laid {p : Addr} {o : HO} (h : Same H0 H) (n : H p = none) : Grow H0 H (upd H0 p o) (upd H p o) := by
  have n0 : H0 p = none := Same.free h n
  refine ⟨fun b u e => by rw [upd_ne (ne_of_none e n0)]; exact e, fun b u e => by rw [upd_ne (ne_of_none e n)]; exact e, fun b u e => ?_, fun b h1 h2 => ?_⟩
  · by_cases hb : b = p
    · subst hb; rw [upd_same] at e ⊢; exact e
    · rw [upd_ne hb] at e ⊢; exact h b u e
  · rw [upd_ne]
    · exact h2
    · rintro rfl; exact h1 n
end

/-! ### expressions -/
abbrev ME := Env' → Option D
def tD (K : PySem.W.Frag) (Z : Fm) (own : List Nat) (f : ME) : TE := fun σ H Q => ∃ H0 ρ d, SR K Z own σ H0 H ρ ∧ f ρ = some d ∧ ∀ v H' H0', Grow H0 H H0' H' → Rep K H0' v d → Q v H'
/-- the expression makes what f says -/
def DE (X : Cx) (Z : Fm) (own : List Nat) (e : Expr) (f : ME) : Prop := PE X e (tD X.K Z own f)
theorem PE.mono {X : Cx} {e : Expr} {t t' : TE} (h : PE X e t) (i : ∀ σ H Q, t' σ H Q → t σ H Q) : PE X e t' := ⟨fun pins s σ H Q I q => h.run pins s σ H Q I (i σ H Q q)⟩
theorem PT.mono {X : Cx} {e : Expr} {t t' : TT} (h : PT X e t) (i : ∀ σ H Q, t' σ H Q → t σ H Q) : PT X e t' := ⟨fun pins s σ H Q I q => h.run pins s σ H Q I (i σ H Q q)⟩
theorem PW.mono {X : Cx} {e : Expr} {t t' : TT} (h : PW X e t) (i : ∀ σ H Q, t' σ H Q → t σ H Q) : PW X e t' := ⟨fun wh pins s σ H Q I q => h.run wh pins s σ H Q I (i σ H Q q)⟩
theorem PA.mono {X : Cx} {e : List Expr} {t t' : TA} (h : PA X e t) (i : ∀ σ H Q, t' σ H Q → t σ H Q) : PA X e t' := ⟨fun p pins s σ H Q I q => h.run p pins s σ H Q I (i σ H Q q)⟩
theorem PS.mono {X : Cx} {e : Stmt} {t t' : TS} (h : PS X e t) (i : ∀ D σ H, t' D σ H → t D σ H) : PS X e t' := ⟨fun pins s σ H D I q => h.run pins s σ H D I (i D σ H q)⟩
theorem PSs.mono {X : Cx} {e : List Stmt} {t t' : TS} (h : PSs X e t) (i : ∀ D σ H, t' D σ H → t D σ H) : PSs X e t' := ⟨fun pins s σ H D I q => h.run pins s σ H D I (i D σ H q)⟩

section
variable {K : PySem.W.Frag} {Z : Fm} {own : List Nat} {σ : St} {H H0 : Hp} {ρ : Env'} {f g : ME}
/-- one operand is worked out -/
theorem tD.one (S : SR K Z own σ H0 H ρ) {d : D} (e : f ρ = some d) {Q : VK} (q : ∀ v H' H0', SR K Z own σ H0' H' ρ → Grow H0 H H0' H' → Rep K H0' v d → Q v H') : tD K Z own f σ H Q :=
  ⟨H0, ρ, d, S, e, fun v H' H0' gr r => q v H' H0' (S.grow gr) gr r⟩
theorem tD.two (S : SR K Z own σ H0 H ρ) {d e : D} (hf : f ρ = some d) (hg : g ρ = some e) {r : R2} {Q : VK} (q : ∀ x y H' H0', SR K Z own σ H0' H' ρ → Grow H0 H H0' H' → Rep K H0' x d → Rep K H0' y e → r x y H' Q) :
    tOp r (tD K Z own f) (tD K Z own g) σ H Q :=
  tD.one S hf fun x H1 H01 S1 g1 r1 => tD.one S1 hg fun y H2 H02 S2 g2 r2 => q x y H2 H02 S2 (g1.trans g2) (r1.up g2.s0) r2
end

def eVar (i : Nat) : ME := fun ρ => (ρ[i]?).join
def eC (d : D) : ME := fun _ => some d
section
variable {X : Cx} {Z : Fm} {own : List Nat} {pos : Pos}
theorem de_var (i : Nat) {x : Str} (hi : i ∉ own := by decide) (hN : X.N[i]? = some x := by rfl) (hv : Vis X.env.scope x := by first | exact Or.inl rfl | exact Or.inr (Or.inl rfl) | exact Or.inr (Or.inr rfl)) (hd : (x == ("__debug__" : Str)) = false := by decide)
    (hcd : (x == ("__classdict__" : Str)) = false := by decide) : DE X Z own (.Name x pos) (eVar i) := by
  refine PE.mono (pe_var hN hv hd hcd) fun σ H Q ⟨H0, ρ, d, S, e, q⟩ => ?_
  have e1 : ρ[i]? = some (some d) := by
    unfold eVar at e
    cases h : ρ[i]? with
    | none => rw [h] at e; cases e
    | some o => rw [h] at e; exact congrArg _ e
  obtain ⟨v, a, r⟩ := S.shr i d e1 hi
  exact ⟨v, a, q v H H0 (Grow.refl S.hs.s) r⟩
theorem de_int {i j} : DE X Z own (.Constant (.int i) j pos) (eC (.int i)) := PE.mono pe_int fun σ H Q ⟨H0, ρ, d, S, e, q⟩ => by cases e; exact q _ H H0 (Grow.refl S.hs.s) (.int i)
theorem de_bl {b j} : DE X Z own (.Constant (.bool b) j pos) (eC (.bl b)) := PE.mono pe_bl fun σ H Q ⟨H0, ρ, d, S, e, q⟩ => by cases e; exact q _ H H0 (Grow.refl S.hs.s) (.bl b)
theorem de_non {j} : DE X Z own (.Constant .none j pos) (eC .non) := PE.mono pe_non fun σ H Q ⟨H0, ρ, d, S, e, q⟩ => by cases e; exact q _ H H0 (Grow.refl S.hs.s) .non
theorem de_str {x j} : DE X Z own (.Constant (.str x) j pos) (eC (.str x)) := PE.mono pe_str fun σ H Q ⟨H0, ρ, d, S, e, q⟩ => by cases e; exact q _ H H0 (Grow.refl S.hs.s) (.str x)
end
end BW

set_option maxRecDepth 100000
namespace BW
open PySem PySem.Spec L2

/-! ### operations on two values, by data -/
abbrev G2 := D → D → Option D
def rDD (K : PySem.W.Frag) (g : G2) : R2 := fun x y H Q => ∃ H0 d e r, Same H0 H ∧ Rep K H0 x d ∧ Rep K H0 y e ∧ g d e = some r ∧ ∀ v H' H0', Grow H0 H H0' H' → Rep K H0' v r → Q v H'
def DOp (X : Cx) (f : Value → Value → Sem Value) (g : G2) : Prop := OpR X f (rDD X.K g)
theorem OpR.imp {X : Cx} {f : Value → Value → Sem Value} {r r' : R2} (h : OpR X f r) (i : ∀ x y H Q, r' x y H Q → r x y H Q) : OpR X f r' := fun pins s σ H x y v u Q I rx ry q => h pins s σ H x y v u Q I rx ry (i _ _ _ _ q)
def eBin (g : G2) (f f' : ME) : ME := fun ρ => match f ρ, f' ρ with
  | some d, some e => g d e
  | _, _ => none
theorem eBin_some {g : G2} {f f' : ME} {ρ : Env'} {r : D} (h : eBin g f f' ρ = some r) : ∃ d e, f ρ = some d ∧ f' ρ = some e ∧ g d e = some r := by
  unfold eBin at h
  cases h1 : f ρ with
  | none => rw [h1] at h; cases h
  | some d =>
    cases h2 : f' ρ with
    | none => rw [h1, h2] at h; cases h
    | some e => rw [h1, h2] at h; exact ⟨d, e, rfl, rfl, h⟩
section
variable {X : Cx} {Z : Fm} {own : List Nat} {pos : Pos} {a b c : Expr} {f f' f'' : ME} {g g' : G2}
theorem tD.bin {K : PySem.W.Frag} {σ : St} {H : Hp} {Q : VK} (h : tD K Z own (eBin g f f') σ H Q) : tOp (rDD K g) (tD K Z own f) (tD K Z own f') σ H Q := by
  obtain ⟨H0, ρ, r, S, e, q⟩ := h
  obtain ⟨d, d', e1, e2, e3⟩ := eBin_some e
  exact tD.two S e1 e2 fun x y H' H0' S' gr rx ry => ⟨H0', d, d', r, S'.hs.s, rx, ry, e3, fun v H2 H02 g2 rv => q v H2 H02 (gr.trans g2) rv⟩
theorem de_bin {op : Operator} (ho : DOp X (binaryOp op) g) (ha : DE X Z own a f) (hb : DE X Z own b f') : DE X Z own (.BinOp a op b pos) (eBin g f f') :=
  PE.mono (pe_op ho ha hb) fun σ H Q h => h.bin
theorem de_cmp {op : CmpOp} (ho : DOp X (compareOp op) g) (ha : DE X Z own a f) (hb : DE X Z own b f') (hm : behindInMarks op b = false := by first | exact nomark _ (by decide) (by decide) | rfl) : DE X Z own (.Compare a [op] [b] pos) (eBin g f f') :=
  PE.mono (pe_cmpR ho ha hb hm) fun σ H Q h => h.bin
end

/-! ### tests -/
abbrev MB := Env' → Option Bool
def bOf (f : ME) : MB := fun ρ => match f ρ with
  | some (.bl b) => some b
  | _ => none
theorem bOf_some {f : ME} {ρ : Env'} {b : Bool} (h : bOf f ρ = some b) : f ρ = some (.bl b) := by
  unfold bOf at h
  split at h
  · cases h; assumption
  · cases h
def tB' (K : PySem.W.Frag) (Z : Fm) (own : List Nat) (f : MB) : TT := fun σ H Q => ∃ H0 ρ b, SR K Z own σ H0 H ρ ∧ f ρ = some b ∧ ∀ H' H0', Grow H0 H H0' H' → Q b H'
def DT (X : Cx) (Z : Fm) (own : List Nat) (e : Expr) (f : MB) : Prop := PT X e (tB' X.K Z own f)
def DW (X : Cx) (Z : Fm) (own : List Nat) (e : Expr) (f : MB) : Prop := PW X e (tB' X.K Z own f)
section
variable {X : Cx} {Z : Fm} {own : List Nat} {pos : Pos} {a b c : Expr} {es : List Expr} {f f' f'' : ME} {g g' : G2} {p p' : MB}
theorem tB'.one {K : PySem.W.Frag} {σ : St} {H H0 : Hp} {ρ : Env'} (S : SR K Z own σ H0 H ρ) {d : Bool} (e : p ρ = some d) {Q : Bool → Hp → Prop} (q : ∀ H' H0', SR K Z own σ H0' H' ρ → Grow H0 H H0' H' → Q d H') : tB' K Z own p σ H Q :=
  ⟨H0, ρ, d, S, e, fun H' H0' gr => q H' H0' (S.grow gr) gr⟩
theorem Rep.bl_inv {K : PySem.W.Frag} {H : Hp} {v : V} {b : Bool} (h : Rep K H v (.bl b)) : v = .bl b := by cases h; rfl
theorem Rep.int_inv {K : PySem.W.Frag} {H : Hp} {v : V} {b : Int} (h : Rep K H v (.int b)) : v = .int b := by cases h; rfl
theorem Rep.str_inv {K : PySem.W.Frag} {H : Hp} {v : V} {b : Str} (h : Rep K H v (.str b)) : v = .str b := by cases h; rfl
theorem Rep.non_inv {K : PySem.W.Frag} {H : Hp} {v : V} (h : Rep K H v .non) : v = .non := by cases h; rfl
theorem Rep.lst_inv {K : PySem.W.Frag} {H : Hp} {v : V} {ds : List D} (h : Rep K H v (.lst ds)) : ∃ p xs, v = .ref p ∧ SqL K H p xs ∧ RepL K H xs ds := by
  cases h with
  | lst s r => exact ⟨_, _, rfl, s, r⟩
theorem Rep.tup_inv {K : PySem.W.Frag} {H : Hp} {v : V} {ds : List D} (h : Rep K H v (.tup ds)) : ∃ p xs, v = .ref p ∧ SqT K H p xs ∧ RepL K H xs ds := by
  cases h with
  | tup s r => exact ⟨_, _, rfl, s, r⟩
theorem Rep.dct_inv {K : PySem.W.Frag} {H : Hp} {v : V} {ds : List (Key × D)} (h : Rep K H v (.dct ds)) : ∃ p xs, v = .ref p ∧ Rd H p (.dK xs) ∧ RepK K H xs ds := by
  cases h with
  | dct s r => exact ⟨_, _, rfl, s, r⟩
/-- a comparison as a test -/
theorem dt_cmp {op : CmpOp} (ho : DOp X (compareOp op) g) (ha : DE X Z own a f) (hb : DE X Z own b f') (hm : behindInMarks op b = false := by first | exact nomark _ (by decide) (by decide) | rfl) : DT X Z own (.Compare a [op] [b] pos) (bOf (eBin g f f')) := by
  refine PT.mono (pt_cmpR ho ha hb hm) fun σ H Q ⟨H0, ρ, r, S, e, q⟩ => ?_
  have e' := bOf_some e
  exact tD.bin ⟨H0, ρ, _, S, e', fun v H' H0' gr rv => ⟨r, rv.bl_inv, q H' H0' gr⟩⟩
/-- any expression that gives a truth, as a test -/
theorem dt_val (h : DE X Z own a f) (he : ∀ whole, isTrue a X.env whole = (do let v ← whole; standAt a.pos; holding [v] (truthy v)) := by intro _; rfl) : DT X Z own a (bOf f) := by
  refine PT.mono (pt_val h he) fun σ H Q ⟨H0, ρ, r, S, e, q⟩ => ?_
  exact ⟨H0, ρ, _, S, bOf_some e, fun v H' H0' gr rv => ⟨r, rv.bl_inv, q H' H0' gr⟩⟩
/-- two links -/
def eChain (g g' : G2) (f f' f'' : ME) : ME := fun ρ => match f ρ, f' ρ with
  | some d, some e => (match g d e with
    | some (.bl true) => (match f'' ρ with
      | some x => g' e x
      | none => none)
    | some (.bl false) => some (.bl false)
    | _ => none)
  | _, _ => none
theorem eChain_some {ρ : Env'} {r : D} (h : eChain g g' f f' f'' ρ = some r) : ∃ d e, f ρ = some d ∧ f' ρ = some e ∧ ((g d e = some (.bl true) ∧ ∃ x, f'' ρ = some x ∧ g' e x = some r) ∨ (g d e = some (.bl false) ∧ r = .bl false)) := by
  unfold eChain at h
  split at h
  · rename_i d e h1 h2
    refine ⟨d, e, h1, h2, ?_⟩
    split at h
    · rename_i h3
      split at h
      · rename_i x h4; exact .inl ⟨h3, x, h4, h⟩
      · cases h
    · rename_i h3; cases h; exact .inr ⟨h3, rfl⟩
    · cases h
  · cases h
theorem tD.chain {K : PySem.W.Frag} {σ : St} {H : Hp} {Q : VK} (h : tD K Z own (eChain g g' f f' f'') σ H Q) : tChain (rDD K g) (rDD K g') (tD K Z own f) (tD K Z own f') (tD K Z own f'') σ H Q := by
  obtain ⟨H0, ρ, r, S, e, q⟩ := h
  obtain ⟨d, d', e1, e2, e3⟩ := eChain_some e
  refine tD.one S e1 fun x H1 H01 S1 g1 r1 => tD.one S1 e2 fun y H2 H02 S2 g2 r2 => ?_
  rcases e3 with ⟨e3, z, e4, e5⟩ | ⟨e3, rfl⟩
  · refine ⟨H02, d, d', .bl true, S2.hs.s, r1.up g2.s0, r2, e3, fun v H3 H03 g3 rv => ⟨true, rv.bl_inv, ?_⟩⟩
    rw [if_pos rfl]
    refine tD.one (S2.grow g3) e4 fun z' H4 H04 S4 g4 r4 => ?_
    exact ⟨H04, d', z, r, S4.hs.s, r2.up (g3.trans g4).s0, r4, e5, fun v H5 H05 g5 rv => q v H5 H05 ((((g1.trans g2).trans g3).trans g4).trans g5) rv⟩
  · refine ⟨H02, d, d', .bl false, S2.hs.s, r1.up g2.s0, r2, e3, fun v H3 H03 g3 rv => ⟨false, rv.bl_inv, ?_⟩⟩
    rw [if_neg Bool.false_ne_true]
    exact q _ H3 H03 ((g1.trans g2).trans g3) (.bl false)
theorem de_chain {op op' : CmpOp} (ho : DOp X (compareOp op) g) (ho' : DOp X (compareOp op') g') (ha : DE X Z own a f) (hb : DE X Z own b f') (hc : DE X Z own c f'') (hm : lastMarks [op, op'] [b, c] = false := by with_unfolding_all rfl) : DE X Z own (.Compare a [op, op'] [b, c] pos) (eChain g g' f f' f'') :=
  PE.mono (pe_chain ho ho' ha hb hc hm) fun σ H Q h => h.chain
theorem dt_chain {op op' : CmpOp} (ho : DOp X (compareOp op) g) (ho' : DOp X (compareOp op') g') (ha : DE X Z own a f) (hb : DE X Z own b f') (hc : DE X Z own c f'') (hm : lastMarks [op, op'] [b, c] = false := by with_unfolding_all rfl) : DT X Z own (.Compare a [op, op'] [b, c] pos) (bOf (eChain g g' f f' f'')) := by
  refine PT.mono (pt_chain ho ho' ha hb hc hm) fun σ H Q ⟨H0, ρ, r, S, e, q⟩ => ?_
  exact tD.chain ⟨H0, ρ, _, S, bOf_some e, fun v H' H0' gr rv => ⟨r, rv.bl_inv, q H' H0' gr⟩⟩

/-! and, or, not as tests -/
def bAnd (p p' : MB) : MB := fun ρ => match p ρ with
  | some true => p' ρ
  | some false => some false
  | none => none
def bOr (p p' : MB) : MB := fun ρ => match p ρ with
  | some true => some true
  | some false => p' ρ
  | none => none
def bNot (p : MB) : MB := fun ρ => (p ρ).map (!·)
theorem dw_and1 (h : DT X Z own a p) : DW X Z own (.BoolOp .And [a] pos) p := pw_and1 h
theorem dw_or1 (h : DT X Z own a p) : DW X Z own (.BoolOp .Or [a] pos) p := pw_or1 h
theorem dw_and (h : DT X Z own a p) (h' : DW X Z own (.BoolOp .And (b :: es) pos) p') : DW X Z own (.BoolOp .And (a :: b :: es) pos) (bAnd p p') := by
  refine PW.mono (pw_and h h') fun σ H Q ⟨H0, ρ, r, S, e, q⟩ => ?_
  unfold bAnd at e
  cases h1 : p ρ with
  | none => rw [h1] at e; cases e
  | some k =>
    rw [h1] at e
    refine tB'.one S h1 fun H1 H01 S1 g1 => ?_
    cases k with
    | true => rw [if_pos rfl]; exact ⟨H01, ρ, r, S1, e, fun H' H0' g2 => q H' H0' (g1.trans g2)⟩
    | false => rw [if_neg Bool.false_ne_true]; cases e; exact q _ _ g1
theorem dw_or (h : DT X Z own a p) (h' : DW X Z own (.BoolOp .Or (b :: es) pos) p') : DW X Z own (.BoolOp .Or (a :: b :: es) pos) (bOr p p') := by
  refine PW.mono (pw_or h h') fun σ H Q ⟨H0, ρ, r, S, e, q⟩ => ?_
  unfold bOr at e
  cases h1 : p ρ with
  | none => rw [h1] at e; cases e
  | some k =>
    rw [h1] at e
    refine tB'.one S h1 fun H1 H01 S1 g1 => ?_
    cases k with
    | false => rw [if_neg Bool.false_ne_true]; exact ⟨H01, ρ, r, S1, e, fun H' H0' g2 => q H' H0' (g1.trans g2)⟩
    | true => rw [if_pos rfl]; cases e; exact q _ _ g1
theorem dt_w (h : DW X Z own a p) : DT X Z own a p := PW.pt h
theorem dt_not (h : DT X Z own a p) : DT X Z own (.UnaryOp .Not a pos) (bNot p) := by
  refine PT.mono (pt_not h) fun σ H Q ⟨H0, ρ, r, S, e, q⟩ => ?_
  unfold bNot at e
  cases h1 : p ρ with
  | none => rw [h1] at e; cases e
  | some k =>
    rw [h1] at e
    cases e
    exact tB'.one S h1 fun H1 H01 S1 g1 => q _ _ g1

/-! and, or, not as values of truths; a if t else b -/
def eAnd (f f' : ME) : ME := fun ρ => match f ρ with
  | some (.bl true) => f' ρ
  | some (.bl false) => some (.bl false)
  | _ => none
def eOr (f f' : ME) : ME := fun ρ => match f ρ with
  | some (.bl true) => some (.bl true)
  | some (.bl false) => f' ρ
  | _ => none
def eNot (f : ME) : ME := fun ρ => match f ρ with
  | some (.bl b) => some (.bl (!b))
  | _ => none
def eIf (p : MB) (f f' : ME) : ME := fun ρ => match p ρ with
  | some true => f ρ
  | some false => f' ρ
  | none => none
theorem de_one {op} (h : DE X Z own a f) : DE X Z own (.BoolOp op [a] pos) f := pe_one h
theorem de_and (h : DE X Z own a f) (h' : DE X Z own (.BoolOp .And (b :: es) pos) f') : DE X Z own (.BoolOp .And (a :: b :: es) pos) (eAnd f f') := by
  refine PE.mono (pe_and h h') fun σ H Q ⟨H0, ρ, r, S, e, q⟩ => ?_
  unfold eAnd at e
  split at e
  · rename_i h1
    refine tD.one S h1 fun v H1 H01 S1 g1 r1 => ⟨true, r1.bl_inv, ?_⟩
    rw [if_pos rfl]
    exact ⟨H01, ρ, r, S1, e, fun v H' H0' g2 => q v H' H0' (g1.trans g2)⟩
  · rename_i h1
    cases e
    refine tD.one S h1 fun v H1 H01 S1 g1 r1 => ⟨false, r1.bl_inv, ?_⟩
    rw [if_neg Bool.false_ne_true]
    exact q _ _ _ g1 (.bl false)
  · cases e
theorem de_or (h : DE X Z own a f) (h' : DE X Z own (.BoolOp .Or (b :: es) pos) f') : DE X Z own (.BoolOp .Or (a :: b :: es) pos) (eOr f f') := by
  refine PE.mono (pe_or h h') fun σ H Q ⟨H0, ρ, r, S, e, q⟩ => ?_
  unfold eOr at e
  split at e
  · rename_i h1
    cases e
    refine tD.one S h1 fun v H1 H01 S1 g1 r1 => ⟨true, r1.bl_inv, ?_⟩
    rw [if_pos rfl]
    exact q _ _ _ g1 (.bl true)
  · rename_i h1
    refine tD.one S h1 fun v H1 H01 S1 g1 r1 => ⟨false, r1.bl_inv, ?_⟩
    rw [if_neg Bool.false_ne_true]
    exact ⟨H01, ρ, r, S1, e, fun v H' H0' g2 => q v H' H0' (g1.trans g2)⟩
  · cases e
theorem de_not (h : DE X Z own a f) : DE X Z own (.UnaryOp .Not a pos) (eNot f) := by
  refine PE.mono (pe_not h) fun σ H Q ⟨H0, ρ, r, S, e, q⟩ => ?_
  unfold eNot at e
  split at e
  · rename_i k h1
    cases e
    exact tD.one S h1 fun v H1 H01 S1 g1 r1 => ⟨k, r1.bl_inv, q _ _ _ g1 (.bl _)⟩
  · cases e
theorem de_if (hp : DT X Z own c p) (h : DE X Z own a f) (h' : DE X Z own b f') : DE X Z own (.IfExp c a b pos) (eIf p f f') := by
  refine PE.mono (pe_ifExp hp h h') fun σ H Q ⟨H0, ρ, r, S, e, q⟩ => ?_
  unfold eIf at e
  split at e
  · rename_i h1
    refine tB'.one S h1 fun H1 H01 S1 g1 => ?_
    rw [if_pos rfl]
    exact ⟨H01, ρ, r, S1, e, fun v H' H0' g2 => q v H' H0' (g1.trans g2)⟩
  · rename_i h1
    refine tB'.one S h1 fun H1 H01 S1 g1 => ?_
    rw [if_neg Bool.false_ne_true]
    exact ⟨H01, ρ, r, S1, e, fun v H' H0' g2 => q v H' H0' (g1.trans g2)⟩
  · cases e
end

/-! ### the operations -/
def gI (g : Int → Int → Option Int) : G2 := fun d e => match d, e with
  | .int i, .int j => (g i j).map .int
  | _, _ => none
def gB (g : Int → Int → Bool) : G2 := fun d e => match d, e with
  | .int i, .int j => some (.bl (g i j))
  | _, _ => none
section
variable {X : Cx}
theorem opI' {f : Value → Value → Sem Value} {C : Int → Int → Prop} {h : Int → Int → Int} {g : Int → Int → Option Int} (ho : OpR X f (rI C fun i j => .int (h i j))) (k : ∀ i j r, g i j = some r → C i j ∧ r = h i j) : DOp X f (gI g) := by
  refine OpR.imp ho fun x y H Q ⟨H0, d, e, r, s, rx, ry, eg, q⟩ => ?_
  unfold gI at eg
  split at eg
  · rename_i i j
    cases eh : g i j with
    | none => rw [eh] at eg; cases eg
    | some z =>
      rw [eh] at eg
      cases eg
      obtain ⟨c, rfl⟩ := k i j z eh
      exact ⟨i, j, rx.int_inv, ry.int_inv, c, q _ _ _ (Grow.refl s) (.int _)⟩
  · cases eg
theorem opB' {f : Value → Value → Sem Value} {g : Int → Int → Bool} (ho : OpR X f (rI0 fun i j => .bl (g i j))) : DOp X f (gB g) := by
  refine OpR.imp ho fun x y H Q ⟨H0, d, e, r, s, rx, ry, eg, q⟩ => ?_
  unfold gB at eg
  split at eg
  · rename_i i j
    cases eg
    exact ⟨i, j, rx.int_inv, ry.int_inv, q _ _ _ (Grow.refl s) (.bl _)⟩
  · cases eg
def gMinus : G2 := gI fun i j => some (i - j)
def mulOk (i : Int) : Bool := decide (-18446744073709551616 < i) && decide (i < 18446744073709551616)
def gMulI : G2 := gI fun i j => if mulOk i || mulOk j then some (i * j) else none
def gDiv : G2 := gI fun i j => if 0 < j ∧ j < 1073741824 then some (i / j) else none
def gMod : G2 := gI fun i j => if 0 < j then some (i % j) else none
theorem dop_sub : DOp X (binaryOp .Sub) gMinus := by
  refine OpR.imp op_sub fun x y H Q ⟨H0, d, e, r, s, rx, ry, eg, q⟩ => ?_
  unfold gMinus gI at eg
  split at eg
  · rename_i i j
    cases eg
    exact ⟨i, j, rx.int_inv, ry.int_inv, q _ _ _ (Grow.refl s) (.int _)⟩
  · cases eg
theorem mulOk_iff {i : Int} (h : mulOk i = true) : -(2 ^ 64) < i ∧ i < 2 ^ 64 := by
  unfold mulOk at h
  rw [Bool.and_eq_true] at h
  exact ⟨of_decide_eq_true h.1, of_decide_eq_true h.2⟩
theorem mul_cond {i j r : Int} (h : (if (mulOk i || mulOk j) = true then some (i * j) else none) = some r) : CMul i j ∧ r = i * j := by
  split at h
  · rename_i c
    cases h
    refine ⟨?_, rfl⟩
    rcases Bool.or_eq_true_iff.mp c with c | c
    · exact .inl (mulOk_iff c)
    · exact .inr (mulOk_iff c)
  · cases h
theorem dop_mul : DOp X (binaryOp .Mult) gMulI := opI' op_mul fun i j r h => mul_cond h
theorem dop_div : DOp X (binaryOp .FloorDiv) gDiv := opI' op_fdiv fun i j r h => by
  split at h
  · rename_i c; cases h; exact ⟨c, rfl⟩
  · cases h
theorem dop_mod : DOp X (binaryOp .Mod) gMod := opI' op_mod fun i j r h => by
  split at h
  · rename_i c; cases h; exact ⟨c, rfl⟩
  · cases h
theorem dop_lt : DOp X (compareOp .Lt) (gB fun i j => decide (i < j)) := opB' op_lt
theorem dop_le : DOp X (compareOp .LtE) (gB fun i j => decide (i ≤ j)) := opB' op_le
theorem dop_gt : DOp X (compareOp .Gt) (gB fun i j => decide (j < i)) := opB' op_gt
theorem dop_ge : DOp X (compareOp .GtE) (gB fun i j => decide (j ≤ i)) := opB' op_ge

/-! + of ints, texts, lists, tuples -/
def rCatL (K : PySem.W.Frag) : R2 := fun x y H Q => ∃ l b xs zs, x = .ref l ∧ y = .ref b ∧ SqL K H l xs ∧ SqL K H b zs ∧ xs.length + zs.length ≤ sizeLine ∧ ∀ p, H p = none → Q (.ref p) (upd H p (.lst (xs ++ zs)))
theorem op_catL : OpR X (binaryOp .Add) (rCatL X.K) := by
  intro pins s σ H x y v u Q I rx ry h
  obtain ⟨l, b, xs, zs, rfl, rfl, hH, hB, hz, q⟩ := h
  cases rx
  cases ry
  obtain ⟨its, r, pl, z1⟩ := I.list hH
  obtain ⟨its2, r2, pl2, z2⟩ := I.list hB
  obtain ⟨⟨cls, dd, data, sl⟩, ho, hc, n, hd⟩ := pl.isList
  obtain ⟨⟨cls2, dd2, data2, sl2⟩, ho2, hc2, n2, hd2⟩ := pl2.isList
  simp only at hc hd hc2 hd2
  subst hc hd hc2 hd2
  have e : its.toArray ++ its2.toArray = (its ++ its2).toArray := by simp
  have hl := r.length
  have hl2 := r2.length
  refine concat_meets ⟨_, ho, rfl⟩ ⟨_, ho2, rfl⟩ noFill_list_add seq_list_add PySem.F.slot_list_add PySem.F.entry_list_add (PySem.F.args_list_add_2 _ _) (PyProof.Rows.list_addW l b its.toArray its2.toArray n n2 dd dd2 sl sl2 (by simp only [List.size_toArray]; omega)) ⟨ho, ho2, ?_⟩
  rw [e]
  exact ⟨.ref _, _, I.lnew (t' := s.toks) (r.append r2) (by rw [List.length_append]; omega), rfl, q _ I.fresh⟩
def gAdd : G2 := fun d e => match d, e with
  | .int i, .int j => some (.int (i + j))
  | .str i, .str j => if i.length + j.length ≤ 16777216 then some (.str (i ++ j)) else none
  | .lst a, .lst b => if a.length + b.length ≤ 16777216 then some (.lst (a ++ b)) else none
  | .tup a, .tup b => if a ≠ [] ∧ b ≠ [] ∧ a.length + b.length ≤ 16777216 then some (.tup (a ++ b)) else none
  | _, _ => none
theorem szl : sizeLine = 16777216 := sizeLine_eq
theorem RepL.ne {K : PySem.W.Frag} {H : Hp} {vs : List V} {ds : List D} (r : RepL K H vs ds) (h : ds ≠ []) : vs ≠ [] := by
  intro e
  have := r.length
  rw [e] at this
  exact h (List.length_eq_zero_iff.mp this.symm)
theorem dop_add : DOp X (binaryOp .Add) gAdd := by
  refine OpR.imp (op_add.or (op_add_str.or (op_catL.or op_catT))) fun x y H Q ⟨H0, d, e, r, s, rx, ry, eg, q⟩ => ?_
  unfold gAdd at eg
  split at eg
  · rename_i i j
    cases eg
    exact .inl ⟨i, j, rx.int_inv, ry.int_inv, q _ _ _ (Grow.refl s) (.int _)⟩
  · rename_i i j
    split at eg
    · rename_i hl
      cases eg
      exact .inr (.inl ⟨i, j, rx.str_inv, ry.str_inv, by rw [szl]; exact hl, q _ _ _ (Grow.refl s) (.str _)⟩)
    · cases eg
  · rename_i a b
    split at eg
    · rename_i hl
      cases eg
      obtain ⟨p, xs, rfl, h1, r1⟩ := rx.lst_inv
      obtain ⟨p', ys, rfl, h2, r2⟩ := ry.lst_inv
      refine .inr (.inr (.inl ⟨p, p', xs, ys, rfl, rfl, s.seq h1, s.seq h2, by rw [r1.length, r2.length, szl]; exact hl, fun l hn => ?_⟩))
      have g := Grow.laid (o := .lst (xs ++ ys)) s hn
      exact q _ _ _ g (.lst (SqL.of upd_same) ((r1.append r2).up g.s0))
    · cases eg
  · rename_i a b
    split at eg
    · rename_i hl
      cases eg
      obtain ⟨p, xs, rfl, h1, r1⟩ := rx.tup_inv
      obtain ⟨p', ys, rfl, h2, r2⟩ := ry.tup_inv
      refine .inr (.inr (.inr ⟨p, p', xs, ys, rfl, rfl, Same.seqT s h1, Same.seqT s h2, r1.ne hl.1, by rw [r1.length, r2.length, szl]; exact hl.2.2, fun z => absurd z (r2.ne hl.2.1), fun _ l hn => ?_⟩))
      have g := Grow.laid (o := .tup (xs ++ ys)) s hn
      exact q _ _ _ g (.tup (SqT.of upd_same) ((r1.append r2).up g.s0))
    · cases eg
  · cases eg

/-! is None; == and != -/
def dIsNon : D → Bool
  | .non => true
  | _ => false
theorem Rep.isNon {K : PySem.W.Frag} {H : Hp} {v : V} : ∀ {d : D}, Rep K H v d → decide (v = .non) = dIsNon d
  | .non, h => by cases h; rfl
  | .bl b, h => by cases h; rfl
  | .int b, h => by cases h; rfl
  | .str b, h => by cases h; rfl
  | .lst b, h => by cases h; rfl
  | .tup b, h => by cases h; rfl
  | .dct b, h => by cases h; rfl
  | .ins C b, h => by cases h; rfl
def gIs : G2 := fun d e => match e with
  | .non => some (.bl (dIsNon d))
  | _ => none
def gIsNot : G2 := fun d e => match e with
  | .non => some (.bl (!dIsNon d))
  | _ => none
theorem dop_is : DOp X (compareOp .Is) gIs := by
  refine OpR.imp op_isN fun x y H Q ⟨H0, d, e, r, s, rx, ry, eg, q⟩ => ?_
  unfold gIs at eg
  split at eg
  · cases eg
    refine ⟨ry.non_inv, ?_⟩
    rw [rx.isNon]
    exact q _ _ _ (Grow.refl s) (.bl _)
  · cases eg
theorem dop_isNot : DOp X (compareOp .IsNot) gIsNot := by
  refine OpR.imp op_notN fun x y H Q ⟨H0, d, e, r, s, rx, ry, eg, q⟩ => ?_
  unfold gIsNot at eg
  split at eg
  · cases eg
    refine ⟨ry.non_inv, ?_⟩
    rw [rx.isNon]
    exact q _ _ _ (Grow.refl s) (.bl _)
  · cases eg
end

mutual
/-- data without dicts and objects, as the library's -/
def toP : D → Option PyData
  | .non => some .none
  | .bl b => some (.bool b)
  | .int i => some (.int i)
  | .str x => some (.str x)
  | .lst ds => (toPs ds).map .list
  | .tup ds => (toPs ds).map .tuple
  | .dct _ => none
  | .ins _ _ => none
def toPs : List D → Option (List PyData)
  | [] => some []
  | d :: ds => (toP d).bind fun p => (toPs ds).map fun ps => p :: ps
end
mutual
theorem Rep.dp {K : PySem.W.Frag} {H : Hp} : ∀ (d : D) (v : V) (p : PyData), Rep K H v d → toP d = some p → Dp K H v p
  | .non, _, _, h, e => by cases h; simp [toP] at e; subst e; exact .non
  | .bl b, _, _, h, e => by cases h; simp [toP] at e; subst e; exact .bl b
  | .int b, _, _, h, e => by cases h; simp [toP] at e; subst e; exact .int b
  | .str b, _, _, h, e => by cases h; simp [toP] at e; subst e; exact .str b
  | .lst ds, _, _, h, e => by
    cases h with
    | lst a r =>
      rw [toP] at e
      cases q : toPs ds with
      | none => rw [q] at e; cases e
      | some ps => rw [q] at e; cases e; exact .lst a (RepL.dp ds _ ps r q)
  | .tup ds, _, _, h, e => by
    cases h with
    | tup a r =>
      rw [toP] at e
      cases q : toPs ds with
      | none => rw [q] at e; cases e
      | some ps => rw [q] at e; cases e; exact .tup a (RepL.dp ds _ ps r q)
  | .dct _, _, _, h, e => by simp [toP] at e
  | .ins _ _, _, _, h, e => by simp [toP] at e
theorem RepL.dp {K : PySem.W.Frag} {H : Hp} : ∀ (ds : List D) (vs : List V) (ps : List PyData), RepL K H vs ds → toPs ds = some ps → DpAll K H vs ps
  | [], _, _, h, e => by cases h; simp [toPs] at e; subst e; exact .nil
  | d :: ds, _, _, h, e => by
    cases h with
    | cons a r =>
      rw [toPs] at e
      cases q : toP d with
      | none => rw [q] at e; cases e
      | some p =>
        rw [q] at e
        cases q2 : toPs ds with
        | none => rw [q2] at e; cases e
        | some ps => rw [q2] at e; cases e; exact .cons (Rep.dp d _ p a q) (RepL.dp ds _ ps r q2)
end
def eqvD (d e : D) : Option Bool := match toP d, toP e with
  | some p, some q => if SeqAt.shaped p && SeqAt.shaped q then some (PyData.eqv p q) else none
  | _, _ => none
def gEq : G2 := fun d e => (eqvD d e).map .bl
def gNe : G2 := fun d e => (eqvD d e).map fun b => .bl (!b)
theorem eqvD_some {d e : D} {b : Bool} (h : eqvD d e = some b) : ∃ p q, toP d = some p ∧ toP e = some q ∧ SeqAt.shaped p = true ∧ SeqAt.shaped q = true ∧ b = PyData.eqv p q := by
  unfold eqvD at h
  split at h
  · rename_i p q h1 h2
    split at h
    · rename_i h3
      cases h
      rw [Bool.and_eq_true] at h3
      exact ⟨p, q, h1, h2, h3.1, h3.2, rfl⟩
    · cases h
  · cases h
section
variable {X : Cx}
theorem dop_eq {k : Nat} (hr : Room k X.A) : DOp X (compareOp .Eq) gEq := by
  refine OpR.imp (op_eqD hr.units) fun x y H Q ⟨H0, d, e, r, s, rx, ry, eg, q⟩ => ?_
  unfold gEq at eg
  cases h : eqvD d e with
  | none => rw [h] at eg; cases eg
  | some b =>
    rw [h] at eg
    cases eg
    obtain ⟨p, p', h1, h2, h3, h4, rfl⟩ := eqvD_some h
    exact ⟨p, p', Rep.dp d _ _ (rx.up s) h1, Rep.dp e _ _ (ry.up s) h2, h3, h4, q _ _ _ (Grow.refl s) (.bl _)⟩
theorem dop_ne {k : Nat} (hr : Room k X.A) : DOp X (compareOp .NotEq) gNe := by
  refine OpR.imp (op_neD hr.units) fun x y H Q ⟨H0, d, e, r, s, rx, ry, eg, q⟩ => ?_
  unfold gNe at eg
  cases h : eqvD d e with
  | none => rw [h] at eg; cases eg
  | some b =>
    rw [h] at eg
    cases eg
    obtain ⟨p, p', h1, h2, h3, h4, rfl⟩ := eqvD_some h
    exact ⟨p, p', Rep.dp d _ _ (rx.up s) h1, Rep.dp e _ _ (ry.up s) h2, h3, h4, q _ _ _ (Grow.refl s) (.bl _)⟩
end
end BW

set_option maxRecDepth 100000
namespace BW
open PySem PySem.Spec L2

/-! ### arguments -/
abbrev MA := Env' → Option (List D)
def tA (K : PySem.W.Frag) (Z : Fm) (own : List Nat) (f : MA) : TA := fun σ H Q => ∃ H0 ρ ds, SR K Z own σ H0 H ρ ∧ f ρ = some ds ∧ ∀ vs H' H0', Grow H0 H H0' H' → RepL K H0' vs ds → Q vs H'
structure DA (X : Cx) (Z : Fm) (own : List Nat) (es : List Expr) (f : MA) : Prop where
  pa : PA X es (tA X.K Z own f)
  len : ∀ ρ ds, f ρ = some ds → ds.length = es.length
def aNil : MA := fun _ => some []
def aCons (f : ME) (g : MA) : MA := fun ρ => match f ρ, g ρ with
  | some d, some ds => some (d :: ds)
  | _, _ => none
section
variable {X : Cx} {Z : Fm} {own : List Nat} {pos : Pos} {e : Expr} {es : List Expr} {f : ME} {fs : MA}
theorem da_nil : DA X Z own [] aNil := ⟨PA.mono pa_nil fun σ H Q ⟨H0, ρ, ds, S, e, q⟩ => by cases e; exact q _ H H0 (Grow.refl S.hs.s) .nil, fun ρ ds h => by cases h; rfl⟩
theorem aCons_some {ρ : Env'} {ds : List D} (h : aCons f fs ρ = some ds) : ∃ d r, f ρ = some d ∧ fs ρ = some r ∧ ds = d :: r := by
  unfold aCons at h
  split at h
  · rename_i d r h1 h2; cases h; exact ⟨d, r, h1, h2, rfl⟩
  · cases h
theorem da_cons (ha : DE X Z own e f) (hr : DA X Z own es fs) (hs : starEach (e :: es) X.env = (false, eval e X.env) :: starEach es X.env := by rfl) : DA X Z own (e :: es) (aCons f fs) := by
  refine ⟨PA.mono (pa_cons ha hr.pa hs) fun σ H Q ⟨H0, ρ, ds, S, e, q⟩ => ?_, fun ρ ds h => ?_⟩
  · obtain ⟨d, r, e1, e2, rfl⟩ := aCons_some e
    refine tD.one S e1 fun v H1 H01 S1 g1 r1 => ⟨H01, ρ, r, S1, e2, fun vs H2 H02 g2 r2 => q _ H2 H02 (g1.trans g2) (.cons (r1.up g2.s0) r2)⟩
  · obtain ⟨d, r, e1, e2, rfl⟩ := aCons_some h
    rw [List.length_cons, List.length_cons, hr.len ρ r e2]
end

/-! ### a new thing that is nobody else's -/
def tF (K : PySem.W.Frag) (Z : Fm) (own : List Nat) (f : ME) : TE := fun σ H Q => ∃ H0 ρ d, SR K Z own σ H0 H ρ ∧ f ρ = some d ∧ ∀ p H' H0', Grow H0 H H0' H' → H p = none → H0' p = none → OwnAt K H0' H' p d → Q (.ref p) H'
/-- the expression makes a new list or dict -/
def DF (X : Cx) (Z : Fm) (own : List Nat) (e : Expr) (f : ME) : Prop := PE X e (tF X.K Z own f)
/-- what is owned is given away -/
theorem freeze {K : PySem.W.Frag} {H0 H : Hp} {p : Addr} {d : D} (s : Same H0 H) (n : H0 p = none) (o : OwnAt K H0 H p d) : ∃ H0', Same H0 H0' ∧ Same H0' H ∧ Rep K H0' (.ref p) d ∧ ∀ b, b ≠ p → H0' b = H0 b := by
  have hS : ∀ u, H p = some u → Same H0 (upd H0 p u) ∧ Same (upd H0 p u) H := fun u hu => ⟨fun b o' e => by rw [upd_ne (ne_of_none e n)]; exact e, fun b o' e => by
    by_cases hb : b = p
    · subst hb; rw [upd_same] at e; cases e; exact hu
    · rw [upd_ne hb] at e; exact s b o' e⟩
  cases d with
  | lst ds =>
    obtain ⟨vs, e, r⟩ := o
    obtain ⟨a, b⟩ := hS _ e
    exact ⟨_, a, b, .lst (SqL.of upd_same) (r.up a), fun b hb => upd_ne hb⟩
  | dct ds =>
    obtain ⟨vs, e, r⟩ := o
    obtain ⟨a, b⟩ := hS _ e
    exact ⟨_, a, b, .dct (.inl upd_same) (r.up a), fun b hb => upd_ne hb⟩
  | _ => exact o.elim
theorem Grow.freeze {H0 H H0' H' H1 : Hp} {p : Addr} (g : Grow H0 H H0' H') (n : H p = none) (a : Same H0' H1) (b : Same H1 H') (c : ∀ b, b ≠ p → H1 b = H0' b) : Grow H0 H H1 H' :=
  ⟨g.s0.trans a, g.s, b, fun q h1 h2 => by
    rw [c q]
    · exact g.new q h1 h2
    · rintro rfl; exact h1 n⟩
section
variable {X : Cx} {Z : Fm} {own : List Nat} {pos : Pos} {e : Expr} {es : List Expr} {f : ME} {fs : MA}
theorem DF.de (h : DF X Z own e f) : DE X Z own e f := by
  refine PE.mono h fun σ H Q ⟨H0, ρ, d, S, e, q⟩ => ⟨H0, ρ, d, S, e, fun p H' H0' g n n0 o => ?_⟩
  obtain ⟨H1, a, b, r, c⟩ := BW.freeze g.sub n0 o
  exact q _ H' H1 (g.freeze n a b c) r

/-! ### displays -/
def eLst (fs : MA) : ME := fun ρ => (fs ρ).map .lst
def eTup (fs : MA) : ME := fun ρ => (fs ρ).map .tup
theorem map_some' {α β : Type} {o : Option α} {g : α → β} {r : β} (h : o.map g = some r) : ∃ a, o = some a ∧ r = g a := by
  cases o with
  | none => cases h
  | some a => cases h; exact ⟨a, rfl, rfl⟩
theorem df_lst (h : DA X Z own es fs) (hl : es.length ≤ 1000 := by decide) : DF X Z own (.List es pos) (eLst fs) := by
  refine PE.mono (pe_lst h.pa) fun σ H Q ⟨H0, ρ, d, S, e, q⟩ => ?_
  obtain ⟨ds, e1, rfl⟩ := map_some' e
  refine ⟨H0, ρ, ds, S, e1, fun vs H' H0' g r => ⟨?_, fun p hp => ?_⟩⟩
  · rw [r.length, h.len ρ ds e1, szl]; omega
  · have hp0 : H0' p = none := Same.free g.sub hp
    refine q p _ H0' ⟨g.s0, g.s.trans fun b u e => by rw [upd_ne (ne_of_none e hp)]; exact e, fun b u e => by rw [upd_ne (ne_of_none e hp0)]; exact g.sub b u e, g.new⟩ (Same.free g.s hp) hp0 ⟨vs, upd_same, r⟩
theorem de_lst (h : DA X Z own es fs) (hl : es.length ≤ 1000 := by decide) : DE X Z own (.List es pos) (eLst fs) := (df_lst h hl).de
theorem de_tup {x1} (h : DA X Z own es fs) (hl : es.length ≤ 1000 := by decide) : DE X Z own (.Tuple es x1 pos) (eTup fs) := by
  refine PE.mono (pe_tup h.pa) fun σ H Q ⟨H0, ρ, d, S, e, q⟩ => ?_
  obtain ⟨ds, e1, rfl⟩ := map_some' e
  refine ⟨H0, ρ, ds, S, e1, fun vs H' H0' g r => ⟨?_, fun p hp => ?_⟩⟩
  · rw [r.length, h.len ρ ds e1, szl]; omega
  · have g2 := Grow.laid (o := .tup vs) g.sub hp
    exact q _ _ _ (g.trans g2) (.tup (SqT.of upd_same) (r.up g2.s0))
end

/-! ### subscripts -/
def DIx (X : Cx) (g : G2) : Prop := IxR X (rDD X.K g)
def gIx : G2 := fun d e => match d, e with
  | .lst ds, .int i => atI ds i
  | .tup ds, .int i => atI ds i
  | .str x, .int i => if x.length ≤ 16777216 then (atI x.cps.toList i).map fun c => .str ⟨#[c]⟩ else none
  | _, _ => none
theorem RepL.at {K : PySem.W.Frag} {H : Hp} {vs : List V} {ds : List D} {i : Int} {d : D} (r : RepL K H vs ds) (h : atI ds i = some d) : ∃ v, atI vs i = some v ∧ Rep K H v d := by
  unfold atI at h ⊢
  rw [r.length]
  cases q : ixN ds.length i with
  | none => rw [q] at h; cases h
  | some j => rw [q] at h; exact r.get h
section
variable {X : Cx} {Z : Fm} {own : List Nat} {pos : Pos} {a b : Expr} {f f' : ME} {g : G2}
theorem IxR.imp {X : Cx} {r r' : R2} (h : IxR X r) (i : ∀ x y H Q, r' x y H Q → r x y H Q) : IxR X r' := by
  intro value slice pins s σ H x y v u Q I rx ry q hs
  exact h value slice pins s σ H x y v u Q I rx ry (i _ _ _ _ q) hs
theorem dix : DIx X gIx := by
  refine IxR.imp ix_seq fun x y H Q ⟨H0, d, e, r, sm, r1, r2, eg, q⟩ => ?_
  unfold gIx at eg
  split at eg
  · rename_i ds i
    obtain ⟨p, xs, rfl, h1, rr⟩ := r1.lst_inv
    obtain ⟨w, e1, rw'⟩ := rr.at eg
    exact .inl ⟨p, xs, i, w, rfl, r2.int_inv, sm.seq h1, e1, q _ _ _ (Grow.refl sm) rw'⟩
  · rename_i ds i
    obtain ⟨p, xs, rfl, h1, rr⟩ := r1.tup_inv
    obtain ⟨w, e1, rw'⟩ := rr.at eg
    exact .inr (.inl ⟨p, xs, i, w, rfl, r2.int_inv, Same.seqT sm h1, e1, q _ _ _ (Grow.refl sm) rw'⟩)
  · rename_i z i
    split at eg
    · rename_i hl
      obtain ⟨c, e1, rfl⟩ := map_some' eg
      exact .inr (.inr ⟨z, i, c, r1.str_inv, r2.int_inv, by rw [szl]; exact hl, e1, q _ _ _ (Grow.refl sm) (.str _)⟩)
    · cases eg
  · cases eg
theorem de_ix (ha : DE X Z own a f) (hb : DE X Z own b f') (hs : PlainIx b := by exact fun _ _ => rfl) : DE X Z own (.Subscript a b pos) (eBin gIx f f') :=
  PE.mono (pe_ix dix ha hb hs) fun σ H Q h => h.bin
end

/-! ### slices of lists, tuples, texts -/
def TOd (K : PySem.W.Frag) (Z : Fm) (own : List Nat) (f : Env' → Option (Option Int)) : TO := fun σ H Q => ∃ H0 ρ o, SR K Z own σ H0 H ρ ∧ f ρ = some o ∧ ∀ H' H0', Grow H0 H H0' H' → Q o H'
def DPo (X : Cx) (Z : Fm) (own : List Nat) (e : Option Expr) (f : Env' → Option (Option Int)) : Prop := PO X e (TOd X.K Z own f)
def oNone : Env' → Option (Option Int) := fun _ => some none
def oSome (f : ME) : Env' → Option (Option Int) := fun ρ => match f ρ with
  | some (.int i) => some (some i)
  | _ => none
def cutD (ds : List D) (lo hi : Option Int) : List D := (ds.drop (HT.sIx ds.length 0 lo)).take (HT.sIx ds.length ds.length hi - HT.sIx ds.length 0 lo)
theorem RepL.cut {K : PySem.W.Frag} {H : Hp} {vs : List V} {ds : List D} (r : RepL K H vs ds) (lo hi : Option Int) : RepL K H (cutV vs lo hi) (cutD ds lo hi) := by
  unfold cutV cutD
  rw [r.length]
  exact (r.drop _).take _
def gSl (d : D) (lo hi : Option Int) : Option D := match d with
  | .lst ds => some (.lst (cutD ds lo hi))
  | .tup ds => if (cutD ds lo hi).length < ds.length then some (.tup (cutD ds lo hi)) else none
  | _ => none
def eSl (f : ME) (l h : Env' → Option (Option Int)) : ME := fun ρ => match f ρ, l ρ, h ρ with
  | some d, some lo, some hi => gSl d lo hi
  | _, _, _ => none
section
variable {X : Cx} {Z : Fm} {own : List Nat} {pos p2 : Pos} {a b : Expr} {lo hi : Option Expr} {f f' : ME} {fl fh : Env' → Option (Option Int)}
theorem PO.mono {X : Cx} {e : Option Expr} {t t' : TO} (h : PO X e t) (i : ∀ σ H Q, t' σ H Q → t σ H Q) : PO X e t' := by
  obtain ⟨r⟩ := h
  exact ⟨fun pins s σ H Q I q => r pins s σ H Q I (i σ H Q q)⟩
theorem dp_none : DPo X Z own none oNone := PO.mono po_none fun σ H Q ⟨H0, ρ, o, S, e, q⟩ => by cases e; exact q H H0 (Grow.refl S.hs.s)
theorem dp_some (h : DE X Z own a f) : DPo X Z own (some a) (oSome f) := by
  refine PO.mono (po_some h) fun σ H Q ⟨H0, ρ, o, S, e, q⟩ => ?_
  unfold oSome at e
  split at e
  · rename_i i h1
    cases e
    exact tD.one S h1 fun v H1 H01 S1 g1 r1 => ⟨i, r1.int_inv, q _ _ g1⟩
  · cases e
theorem tup_sl {xs : List V} {K : PySem.W.Frag} {H : Hp} {ds : List D} {lo hi : Option Int} (r : RepL K H xs ds) (h : (cutD ds lo hi).length < ds.length) : (cutV xs lo hi).length < xs.length := by
  rw [(r.cut lo hi).length, r.length]; exact h
theorem de_slice (ha : DE X Z own a f) (hl : DPo X Z own lo fl) (hh : DPo X Z own hi fh) : DE X Z own (.Subscript a (.Slice lo hi none p2) pos) (eSl f fl fh) := by
  refine PE.mono (pe_slice (sl_list.or sl_tup) ha hl hh) fun σ H Q ⟨H0, ρ, r, S, e, q⟩ => ?_
  unfold eSl at e
  split at e
  · rename_i d l h e1 e2 e3
    refine tD.one S e1 fun v H1 H01 S1 g1 r1 => ⟨H01, ρ, l, S1, e2, fun H2 H02 g2 => ⟨H02, ρ, h, S1.grow g2, e3, fun H3 H03 g3 => ?_⟩⟩
    have gg := (g1.trans g2).trans g3
    have r3 := r1.up (g2.trans g3).s0
    unfold gSl at e
    split at e
    · rename_i ds
      cases e
      obtain ⟨p, xs, rfl, h1, rr⟩ := r3.lst_inv
      refine .inl ⟨p, xs, rfl, gg.sub.seq h1, fun np hn => ?_⟩
      have g4 := Grow.laid (o := .lst (cutV xs l h)) gg.sub hn
      exact q _ _ _ (gg.trans g4) (.lst (SqL.of upd_same) ((rr.cut l h).up g4.s0))
    · rename_i ds
      split at e
      · rename_i hlt
        cases e
        obtain ⟨p, xs, rfl, h1, rr⟩ := r3.tup_inv
        refine .inr ⟨p, xs, rfl, Same.seqT gg.sub h1, ?_⟩
        have hx := tup_sl rr hlt
        have fin : ∀ np, H3 np = none → Q (.ref np) (upd H3 np (.tup (cutV xs l h))) := fun np hn => by
          have g4 := Grow.laid (o := .tup (cutV xs l h)) gg.sub hn
          exact q _ _ _ (gg.trans g4) (.tup (SqT.of upd_same) ((rr.cut l h).up g4.s0))
        refine ⟨fun z => ?_, fin⟩
        unfold cutV at hx
        rw [z.1, z.2] at hx
        simp at hx
      · cases e
    · cases e
  · cases e
end

/-! ### calls of the text's own defs -/
abbrev MF := List D → Option D
def spD (K : PySem.W.Frag) (n : Nat) (m : MF) : Sp := fun vs H Q _ => vs.length = n ∧ ∃ Z ds d, Same Z H ∧ RepL K Z vs ds ∧ m ds = some d ∧ ∀ v H' Z', Grow Z H Z' H' → Rep K Z' v d → Q v H'
structure Df (P : Program) (w : World) (K : PySem.W.Frag) (mg : Str → Option Value) (base : Heap) (k : Nat) (x : Str) (n : Nat) (m : MF) : Prop where
  ex : ∃ (f : Addr) (fd : FuncData) (ps : List Str), FnOk P w K mg base CX0 k f fd ps (spD K n m) ∧ Binds K fd ps [] ∧ PySem.W.keepIn K (.ref f) = true ∧ mg x = some (.ref f)
def eCall (m : MF) (fs : MA) : ME := fun ρ => (fs ρ).bind m
section
variable {X : Cx} {Z : Fm} {own : List Nat} {pos p : Pos} {e : Expr} {es : List Expr} {fs : MA} {x : Str} {n k j : Nat} {m : MF}
theorem de_call (G : Df X.prog X.w X.K X.mg X.base k x n m) (hr : Room j X.A) (ha : DA X Z own (e :: es) fs) (hk : k ≤ j := by decide) (hg : Gl X x := by rfl) (hn : (e :: es).length = n := by rfl) (hdb : (x == ("__debug__" : Str)) = false := by decide) (he : starEach (e :: es) X.env = (false, eval e X.env) :: starEach es X.env := by rfl) (hpl : (backTo pos (starEach es X.env)).any (·.1) = false := by rfl) :
    DE X Z own (.Call (.Name x p) (e :: es) [] pos) (eCall m fs) := by
  obtain ⟨f, fd, ps, F, b, kp, mx⟩ := G.ex
  refine PE.mono (pe_call F (hr.mono hk) hg mx kp b .nil pass0 ha.pa hdb he hpl) fun σ H Q ⟨H0, ρ, r, S, e, q⟩ => ?_
  unfold eCall at e
  cases h1 : fs ρ with
  | none => rw [h1] at e; cases e
  | some ds =>
    rw [h1] at e
    refine ⟨H0, ρ, ds, S, h1, fun vs H1 H01 g1 r1 => ?_⟩
    show spD X.K n m (vs ++ []) H1 Q E0
    rw [List.append_nil]
    exact ⟨by rw [r1.length, ha.len ρ ds h1]; exact hn, H01, ds, r, g1.sub, r1, e, fun v H2 H02 g2 rv => q v H2 H02 (g1.trans g2) rv⟩
end

/-! ### calls of built-ins -/
def rDC (K : PySem.W.Frag) (g : MF) : List V → Hp → VK → Prop := fun vs H Q => ∃ H0 ds r, Same H0 H ∧ RepL K H0 vs ds ∧ g ds = some r ∧ ∀ v H' H0', Grow H0 H H0' H' → Rep K H0' v r → Q v H'
def DCl (X : Cx) (f : Value) (g : MF) : Prop := CallR X f (rDC X.K g)
theorem CallR.imp {X : Cx} {f : Value} {r r' : List V → Hp → VK → Prop} (h : CallR X f r) (i : ∀ x H Q, r' x H Q → r x H Q) : CallR X f r' := fun pins s σ H xs us Q I rx q => h pins s σ H xs us Q I rx (i _ _ _ q)
section
variable {X : Cx} {Z : Fm} {own : List Nat} {pos p : Pos} {e : Expr} {es : List Expr} {fs : MA} {x : Str} {id T : String} {g : MF}
theorem tA.cb {K : PySem.W.Frag} {σ : St} {H : Hp} {Q : VK} (h : tD K Z own (eCall g fs) σ H Q) : tCB (rDC K g) (tA K Z own fs) σ H Q := by
  obtain ⟨H0, ρ, r, S, e, q⟩ := h
  unfold eCall at e
  cases h1 : fs ρ with
  | none => rw [h1] at e; cases e
  | some ds =>
    rw [h1] at e
    exact ⟨H0, ρ, ds, S, h1, fun vs H1 H01 g1 r1 => ⟨H01, ds, r, g1.sub, r1, e, fun v H2 H02 g2 rv => q v H2 H02 (g1.trans g2) rv⟩⟩
theorem de_callB (hc : DCl X (.builtin id) g) (hm : X.mg x = none) (ha : DA X Z own (e :: es) fs) (hv : bootBuiltins x = some (.builtin id) := by decide +kernel) (hg : Gl X x := by rfl) (hn : x ≠ "__name__" := by decide) (hdb : (x == ("__debug__" : Str)) = false := by decide)
    (he : starEach (e :: es) X.env = (false, eval e X.env) :: starEach es X.env := by rfl) (hpl : (backTo pos (starEach es X.env)).any (·.1) = false := by rfl) : DE X Z own (.Call (.Name x p) (e :: es) [] pos) (eCall g fs) :=
  PE.mono (pe_callB hc hg hm hv ha.pa hn hdb he hpl) fun σ H Q h => tA.cb h
theorem de_callTy (hc : DCl X (.type T) g) (hm : X.mg x = none) (ha : DA X Z own (e :: es) fs) (hv : bootBuiltins x = some (.type T) := by decide +kernel) (hg : Gl X x := by rfl) (hn : x ≠ "__name__" := by decide) (hdb : (x == ("__debug__" : Str)) = false := by decide)
    (he : starEach (e :: es) X.env = (false, eval e X.env) :: starEach es X.env := by rfl) (hpl : (backTo pos (starEach es X.env)).any (·.1) = false := by rfl) : DE X Z own (.Call (.Name x p) (e :: es) [] pos) (eCall g fs) :=
  PE.mono (pe_callTy hc hg hm hv ha.pa hn hdb he hpl) fun σ H Q h => tA.cb h
theorem RepL.one {K : PySem.W.Frag} {H : Hp} {vs : List V} {d : D} (h : RepL K H vs [d]) : ∃ v, vs = [v] ∧ Rep K H v d := by
  cases h with
  | cons a b => cases b; exact ⟨_, rfl, a⟩
theorem RepL.two {K : PySem.W.Frag} {H : Hp} {vs : List V} {d e : D} (h : RepL K H vs [d, e]) : ∃ v u, vs = [v, u] ∧ Rep K H v d ∧ Rep K H u e := by
  cases h with
  | cons a b =>
    obtain ⟨u, rfl, r⟩ := b.one
    exact ⟨_, u, rfl, a, r⟩
/-! len -/
def gLen : MF := fun ds => match ds with
  | [.lst xs] => some (.int xs.length)
  | [.tup xs] => some (.int xs.length)
  | [.str x] => if x.length ≤ 16777216 then some (.int x.length) else none
  | _ => none
theorem dcl_len : DCl X (.builtin "len") gLen := by
  refine CallR.imp call_len fun vs H Q ⟨H0, ds, r, s, rx, eg, q⟩ => ?_
  unfold gLen at eg
  split at eg
  · rename_i xs
    cases eg
    obtain ⟨v, rfl, r1⟩ := rx.one
    obtain ⟨p, ys, rfl, h1, rr⟩ := r1.lst_inv
    exact ⟨_, xs.length, rfl, .inl ⟨ys, s.seq h1, rr.length.symm⟩, q _ _ _ (Grow.refl s) (.int _)⟩
  · rename_i xs
    cases eg
    obtain ⟨v, rfl, r1⟩ := rx.one
    obtain ⟨p, ys, rfl, h1, rr⟩ := r1.tup_inv
    exact ⟨_, xs.length, rfl, .inr ⟨ys, Same.seqT s h1, rr.length.symm⟩, q _ _ _ (Grow.refl s) (.int _)⟩
  · rename_i z
    split at eg
    · rename_i hl
      cases eg
      obtain ⟨v, rfl, r1⟩ := rx.one
      exact ⟨v, z.length, rfl, by rw [r1.str_inv]; exact ⟨by rw [szl]; exact hl, rfl⟩, q _ _ _ (Grow.refl s) (.int _)⟩
    · cases eg
  · cases eg
/-! int(..) of an int or a truth -/
def gInt : MF := fun ds => match ds with
  | [.int i] => some (.int i)
  | [.bl b] => some (.int (if b then 1 else 0))
  | _ => none
theorem dcl_int : DCl X (.type "int") gInt := by
  refine CallR.imp call_int1 fun vs H Q ⟨H0, ds, r, s, rx, eg, q⟩ => ?_
  unfold gInt at eg
  split at eg
  · cases eg
    obtain ⟨v, rfl, r1⟩ := rx.one
    exact .inl ⟨_, by rw [r1.int_inv], q _ _ _ (Grow.refl s) (.int _)⟩
  · cases eg
    obtain ⟨v, rfl, r1⟩ := rx.one
    exact .inr ⟨_, by rw [r1.bl_inv], q _ _ _ (Grow.refl s) (.int _)⟩
  · cases eg
/-! min, max of two ints or of a list of ints -/
def intsOf : List D → Option (List Int)
  | [] => some []
  | .int i :: r => (intsOf r).map fun is => i :: is
  | _ :: _ => none
theorem intsOf_eq : ∀ {ds : List D} {is : List Int}, intsOf ds = some is → ds = is.map D.int
  | [], _, h => by cases h; rfl
  | .int i :: r, _, h => by
    obtain ⟨js, e, rfl⟩ := map_some' (show (intsOf r).map _ = some _ from h)
    rw [intsOf_eq e, List.map_cons]
  | .non :: _, _, h => by cases h
  | .bl _ :: _, _, h => by cases h
  | .str _ :: _, _, h => by cases h
  | .lst _ :: _, _, h => by cases h
  | .tup _ :: _, _, h => by cases h
  | .dct _ :: _, _, h => by cases h
  | .ins _ _ :: _, _, h => by cases h
theorem RepL.int_inv {K : PySem.W.Frag} {H : Hp} : ∀ {is : List Int} {vs : List V}, RepL K H vs (is.map D.int) → vs = is.map V.int
  | [], _, h => by cases h; rfl
  | i :: is, _, h => by
    cases h with
    | cons a b => rw [a.int_inv, RepL.int_inv b, List.map_cons]
def maxL (a : Int) (l : List Int) : Int := l.foldl (fun m x => if m < x then x else m) a
def minL (a : Int) (l : List Int) : Int := l.foldl (fun m x => if x < m then x else m) a
theorem maxL_mem : ∀ (l : List Int) (a : Int), maxL a l = a ∨ maxL a l ∈ l
  | [], _ => .inl rfl
  | x :: l, a => by
    show maxL (if a < x then x else a) l = a ∨ _
    rcases maxL_mem l (if a < x then x else a) with h | h
    · rw [show maxL a (x :: l) = maxL (if a < x then x else a) l from rfl, h]
      split
      · exact .inr List.mem_cons_self
      · exact .inl rfl
    · exact .inr (List.mem_cons_of_mem _ h)
theorem maxL_ge : ∀ (l : List Int) (a : Int), a ≤ maxL a l ∧ ∀ x ∈ l, x ≤ maxL a l
  | [], a => ⟨Int.le_refl a, fun x h => by cases h⟩
  | y :: l, a => by
    obtain ⟨h1, h2⟩ := maxL_ge l (if a < y then y else a)
    have e : maxL a (y :: l) = maxL (if a < y then y else a) l := rfl
    rw [e]
    refine ⟨?_, fun x hx => ?_⟩
    · split at h1 <;> rename_i c
      · rw [if_pos c]; omega
      · rw [if_neg c]; exact h1
    · rcases List.mem_cons.mp hx with rfl | hx
      · split at h1 <;> rename_i c
        · rw [if_pos c]; exact h1
        · rw [if_neg c]; omega
      · exact h2 x hx
theorem minL_mem : ∀ (l : List Int) (a : Int), minL a l = a ∨ minL a l ∈ l
  | [], _ => .inl rfl
  | x :: l, a => by
    show minL (if x < a then x else a) l = a ∨ _
    rcases minL_mem l (if x < a then x else a) with h | h
    · rw [show minL a (x :: l) = minL (if x < a then x else a) l from rfl, h]
      split
      · exact .inr List.mem_cons_self
      · exact .inl rfl
    · exact .inr (List.mem_cons_of_mem _ h)
theorem minL_le : ∀ (l : List Int) (a : Int), minL a l ≤ a ∧ ∀ x ∈ l, minL a l ≤ x
  | [], a => ⟨Int.le_refl a, fun x h => by cases h⟩
  | y :: l, a => by
    obtain ⟨h1, h2⟩ := minL_le l (if y < a then y else a)
    have e : minL a (y :: l) = minL (if y < a then y else a) l := rfl
    rw [e]
    refine ⟨?_, fun x hx => ?_⟩
    · split at h1 <;> rename_i c
      · rw [if_pos c]; omega
      · rw [if_neg c]; exact h1
    · rcases List.mem_cons.mp hx with rfl | hx
      · split at h1 <;> rename_i c
        · rw [if_pos c]; exact h1
        · rw [if_neg c]; omega
      · exact h2 x hx
def gMax : MF := fun ds => match ds with
  | [.int i, .int j] => some (.int (if i < j then j else i))
  | [.lst xs] => (match intsOf xs with
    | some (i :: is) => some (.int (maxL i is))
    | _ => none)
  | _ => none
def gMin : MF := fun ds => match ds with
  | [.int i, .int j] => some (.int (if j < i then j else i))
  | [.lst xs] => (match intsOf xs with
    | some (i :: is) => some (.int (minL i is))
    | _ => none)
  | _ => none
theorem dcl_max (hc : X.calm = true) : DCl X (.builtin "max") gMax := by
  refine CallR.imp ((call_max2 hc).or (cr_max hc)) fun vs H Q ⟨H0, ds, r, s, rx, eg, q⟩ => ?_
  unfold gMax at eg
  split at eg
  · rename_i i j
    cases eg
    obtain ⟨v, u, rfl, r1, r2⟩ := rx.two
    exact .inl ⟨i, j, by rw [r1.int_inv, r2.int_inv], q _ _ _ (Grow.refl s) (.int _)⟩
  · rename_i xs
    split at eg
    · rename_i i is hi
      cases eg
      have e := intsOf_eq hi
      subst e
      obtain ⟨v, rfl, r1⟩ := rx.one
      obtain ⟨p, ys, rfl, h1, rr⟩ := r1.lst_inv
      have e2 := rr.int_inv
      subst e2
      refine .inr ⟨p, i :: is, rfl, s.seq h1, Nat.succ_pos _, fun m hm ha => ?_⟩
      have e3 : m = maxL i is := by
        have h2 := maxL_ge is i
        have h3 : maxL i is ∈ i :: is := (maxL_mem is i).elim (fun z => by rw [z]; exact List.mem_cons_self) (List.mem_cons_of_mem _)
        have h4 := ha _ h3
        rcases List.mem_cons.mp hm with rfl | hm
        · omega
        · have := h2.2 m hm; omega
      subst e3
      exact q _ _ _ (Grow.refl s) (.int _)
    · cases eg
  · cases eg
theorem dcl_min (hc : X.calm = true) : DCl X (.builtin "min") gMin := by
  refine CallR.imp ((call_min2 hc).or (cr_min hc)) fun vs H Q ⟨H0, ds, r, s, rx, eg, q⟩ => ?_
  unfold gMin at eg
  split at eg
  · rename_i i j
    cases eg
    obtain ⟨v, u, rfl, r1, r2⟩ := rx.two
    exact .inl ⟨i, j, by rw [r1.int_inv, r2.int_inv], q _ _ _ (Grow.refl s) (.int _)⟩
  · rename_i xs
    split at eg
    · rename_i i is hi
      cases eg
      have e := intsOf_eq hi
      subst e
      obtain ⟨v, rfl, r1⟩ := rx.one
      obtain ⟨p, ys, rfl, h1, rr⟩ := r1.lst_inv
      have e2 := rr.int_inv
      subst e2
      refine .inr ⟨p, i :: is, rfl, s.seq h1, Nat.succ_pos _, fun m hm ha => ?_⟩
      have e3 : m = minL i is := by
        have h2 := minL_le is i
        have h3 : minL i is ∈ i :: is := (minL_mem is i).elim (fun z => by rw [z]; exact List.mem_cons_self) (List.mem_cons_of_mem _)
        have h4 := ha _ h3
        rcases List.mem_cons.mp hm with rfl | hm
        · omega
        · have := h2.2 m hm; omega
      subst e3
      exact q _ _ _ (Grow.refl s) (.int _)
    · cases eg
  · cases eg
end

/-! ### isinstance(e, T), T a built-in class -/
inductive Ty where
  | int | bool | str | tuple | list | dict
def Ty.nm : Ty → String
  | .int => "int" | .bool => "bool" | .str => "str" | .tuple => "tuple" | .list => "list" | .dict => "dict"
def tyS : D → String
  | .non => "NoneType" | .bl _ => "bool" | .int _ => "int" | .str _ => "str" | .lst _ => "list" | .tup _ => "tuple" | .dct _ => "dict" | .ins _ _ => "?"
def isiD (T : Ty) (d : D) : Option Bool := match d, T with
  | .ins _ _, _ => none
  | .bl _, .int => some true
  | .bl _, .bool => some true
  | .int _, .int => some true
  | .str _, .str => some true
  | .lst _, .list => some true
  | .tup _, .tuple => some true
  | .dct _, .dict => some true
  | _, _ => some false
theorem isiD_kit {T : Ty} {d : D} {b : Bool} (h : isiD T d = some b) : kitB (tyS d) T.nm = some b := by
  cases d <;> cases T <;> first | (cases h; done) | (cases h; simp only [tyS, Ty.nm]; decide +kernel)
theorem Rep.tyx {K : PySem.W.Frag} {H0 H : Hp} (s : Same H0 H) : ∀ {d : D} {v : V}, Rep K H0 v d → (∀ C fs, d ≠ .ins C fs) → TyX K H v (.type (tyS d))
  | .non, _, h, _ => by cases h; exact .base .non
  | .bl b, _, h, _ => by cases h; exact .base (.bl b)
  | .int b, _, h, _ => by cases h; exact .base (.int b)
  | .str b, _, h, _ => by cases h; exact .base (.str b)
  | .lst b, _, h, _ => by
    cases h with
    | lst a r =>
      rcases a with (a | ⟨o, a⟩) | ⟨o, its, n, a, c, _⟩
      · exact .base (.lst (s _ _ a))
      · exact .base (.frz (s _ _ a))
      · exact .kList a c
  | .tup b, _, h, _ => by
    cases h with
    | tup a r =>
      rcases a with (a | ⟨o, a⟩) | ⟨o, its, n, a, c, _⟩
      · exact .base (.tup (s _ _ a))
      · exact .fTuple (s _ _ a)
      · exact .kTuple a c
  | .dct b, _, h, _ => by
    cases h with
    | dct a r =>
      rcases a with a | ⟨o, a⟩
      · exact .base (.dK (s _ _ a))
      · exact .fDict (s _ _ a)
  | .ins C fs, _, h, hn => absurd rfl (hn C fs)
def eIsi (T : Ty) (f : ME) : ME := fun ρ => match f ρ with
  | some d => (isiD T d).map .bl
  | none => none
section
variable {X : Cx} {Z : Fm} {own : List Nat} {pos p p1 : Pos} {e : Expr} {f : ME} {x : Str}
theorem de_isi (T : Ty) (hm : X.mg "isinstance" = none) (hT : X.mg x = none) (he : DE X Z own e f) (hv : bootBuiltins x = some (.type T.nm) := by decide +kernel) (hg : Gl X "isinstance" := by rfl) (hgT : Gl X x := by rfl) (hn : x ≠ "__name__" := by decide) (hdb : (x == ("__debug__" : Str)) = false := by decide)
    (hs : starEach [e, .Name x p1] X.env = (false, eval e X.env) :: starEach [.Name x p1] X.env := by rfl) (hs1 : starEach [.Name x p1] X.env = (false, eval (.Name x p1) X.env) :: starEach [] X.env := by rfl) (hpl : (backTo pos (starEach [.Name x p1] X.env)).any (·.1) = false := by rfl) :
    DE X Z own (.Call (.Name "isinstance" p) [e, .Name x p1] [] pos) (eIsi T f) := by
  refine PE.mono (pe_callB call_isi hg hm (by decide +kernel) (pa_cons he (pa_cons (pe_bltn (v := .ty T.nm) hgT hT hv rfl hn hdb) pa_nil hs1) hs) (by decide) (by decide) hs hpl) fun σ H Q ⟨H0, ρ, r, S, e, q⟩ => ?_
  unfold eIsi at e
  split at e
  · rename_i d h1
    obtain ⟨b, e2, rfl⟩ := map_some' e
    refine tD.one S h1 fun v H1 H01 S1 g1 r1 => ?_
    refine ⟨v, .ty T.nm, .type (tyS d), .type T.nm, b, rfl, .ty _, r1.tyx S1.hs.s (fun C fs z => ?_), kit_ty (isiD_kit e2), q _ _ _ g1 (.bl _)⟩
    subst z
    cases T <;> cases e2
  · cases e
end
end BW

set_option maxRecDepth 100000
namespace BW
open PySem PySem.Spec L2

/-! ### statements -/
inductive Res where
  | nx (ρ : Env') | rt (d : D) | bk (ρ : Env') | ct (ρ : Env') | no
abbrev MS := Env' → Res
/-- a def whose own lists hold the mark 999 gives back None, or a new thing that is the caller's own -/
def frl (L : List Nat) : Bool := L.contains 999
def FrR (K : PySem.W.Frag) (Hi H0 H : Hp) (v : V) (d : D) : Prop := (d = .non ∧ v = .non) ∨ ∃ p, v = .ref p ∧ H0 p = none ∧ Hi p = none ∧ OwnAt K H0 H p d
def RtR (K : PySem.W.Frag) (Z : Fm) (b : Bool) (H0 H : Hp) (v : V) (d : D) : Prop := match b with
  | false => Rep K H0 v d
  | true => FrR K Z.i H0 H v d
/-- what is wanted behind a statement, by what it makes. L: what is owned at the loop's head -/
def Post (K : PySem.W.Frag) (Z : Fm) (L own : List Nat) (H0 : Hp) (Dn : Ends) : Res → Prop
  | .nx ρ => ∀ σ H' H0', SR K Z own σ H0' H' ρ → Same H0 H0' → Dn.nx σ H'
  | .rt d => ∀ v H' H0', Hs Z H0' H' → RtR K Z (frl L) H0' H' v d → Dn.rt v H'
  | .bk ρ => ∀ σ H' H0', SR K Z L σ H0' H' ρ → Same H0 H0' → Dn.bk σ H'
  | .ct ρ => ∀ σ H' H0', SR K Z L σ H0' H' ρ → Same H0 H0' → Dn.ct σ H'
  | .no => False
def tDS (K : PySem.W.Frag) (Z : Fm) (L own own' : List Nat) (m : MS) : TS := fun Dn σ H => ∃ H0 ρ, SR K Z own σ H0 H ρ ∧ Post K Z L own' H0 Dn (m ρ)
def DS (X : Cx) (Z : Fm) (L own own' : List Nat) (st : Stmt) (m : MS) : Prop := PS X st (tDS X.K Z L own own' m)
def DSs (X : Cx) (Z : Fm) (L own own' : List Nat) (sts : List Stmt) (m : MS) : Prop := PSs X sts (tDS X.K Z L own own' m)

def sNext : MS := fun ρ => .nx ρ
def sSeq (m n : MS) : MS := fun ρ => match m ρ with
  | .nx ρ' => n ρ'
  | r => r
theorem Post.mono {K : PySem.W.Frag} {Z : Fm} {L own own2 : List Nat} {H0 H01 : Hp} {Dn Dn' : Ends} {r : Res} (s : Same H0 H01) (p : Post K Z L own H0 Dn r)
    (hn : ∀ ρ, r = .nx ρ → ∀ σ H' H0', SR K Z own2 σ H0' H' ρ → Same H01 H0' → (∀ σ H' H0', SR K Z own σ H0' H' ρ → Same H0 H0' → Dn.nx σ H') → Dn'.nx σ H')
    (hr : Dn'.rt = Dn.rt) (hb : Dn'.bk = Dn.bk) (hc : Dn'.ct = Dn.ct) : Post K Z L own2 H01 Dn' r := by
  cases r with
  | nx ρ => exact fun σ H' H0' S s2 => hn ρ rfl σ H' H0' S s2 p
  | rt d => exact fun v H' H0' h r => by rw [hr]; exact p v H' H0' h r
  | bk ρ => exact fun σ H' H0' S s2 => by rw [hb]; exact p σ H' H0' S (s.trans s2)
  | ct ρ => exact fun σ H' H0' S s2 => by rw [hc]; exact p σ H' H0' S (s.trans s2)
  | no => exact p.elim
section
variable {X : Cx} {Z : Fm} {L own own' own'' : List Nat} {pos : Pos} {st : Stmt} {sts : List Stmt} {m n : MS} {e a : Expr} {f : ME} {p : MB}
theorem dss_nil : DSs X Z L own own [] sNext := PSs.mono pss_nil fun Dn σ H ⟨H0, ρ, S, q⟩ => q σ H H0 S (Same.refl _)
theorem tDS.seq {K : PySem.W.Frag} {Dn : Ends} {σ : St} {H : Hp} (h : tDS K Z L own own'' (sSeq m n) Dn σ H) : tSeq (tDS K Z L own own' m) (tDS K Z L own' own'' n) Dn σ H := by
  obtain ⟨H0, ρ, S, q⟩ := h
  refine ⟨H0, ρ, S, ?_⟩
  unfold sSeq at q
  cases h1 : m ρ with
  | nx ρ' =>
    rw [h1] at q
    exact fun σ' H' H0' S' s => ⟨H0', ρ', S', Post.mono s q (fun ρ2 e2 σ2 H2 H02 S2 s2 k => k σ2 H2 H02 S2 (s.trans s2)) rfl rfl rfl⟩
  | rt d => rw [h1] at q; exact q
  | bk ρ' => rw [h1] at q; exact q
  | ct ρ' => rw [h1] at q; exact q
  | no => rw [h1] at q; exact q
theorem dss_cons (h : DS X Z L own own' st m) (h' : DSs X Z L own' own'' sts n) : DSs X Z L own own'' (st :: sts) (sSeq m n) := PSs.mono (pss_cons h h') fun Dn σ H q => q.seq
theorem dss_one (h : DS X Z L own own' st m) : DSs X Z L own own' [st] m := pss_one h

/-! giving away what is owned: ahead, behind -/
theorem SR.freeze {K : PySem.W.Frag} {σ : St} {H0 H : Hp} {ρ : Env'} (i : Nat) (S : SR K Z own σ H0 H ρ) (hs : ∀ j ∈ own', j ∈ own ∧ j ≠ i) (hs2 : ∀ j ∈ own, j = i ∨ j ∈ own') : ∃ H0', SR K Z own' σ H0' H ρ ∧ Same H0 H0' := by
  by_cases hi : i ∈ own
  · cases hρ : ρ[i]? with
    | none =>
      refine ⟨H0, ⟨S.len, S.hs, fun j d e n => ?_, fun j d e n => S.ownd j d e (hs j n).1, fun j k d e p a b => S.apart j k d e p (hs j a).1 (hs k b).1⟩, Same.refl _⟩
      refine S.shr j d e fun z => ?_
      rcases hs2 j z with rfl | z
      · rw [hρ] at e; cases e
      · exact n z
    | some o =>
      cases o with
      | none =>
        refine ⟨H0, ⟨S.len, S.hs, fun j d e n => ?_, fun j d e n => S.ownd j d e (hs j n).1, fun j k d e p a b => S.apart j k d e p (hs j a).1 (hs k b).1⟩, Same.refl _⟩
        refine S.shr j d e fun z => ?_
        rcases hs2 j z with rfl | z
        · rw [hρ] at e; cases e
        · exact n z
      | some d =>
        obtain ⟨q, e1, n0, ni, o⟩ := S.ownd i d hρ hi
        obtain ⟨H1, a, b, r, c⟩ := BW.freeze S.hs.s n0 o
        refine ⟨H1, ⟨S.len, ⟨S.hs.z.trans a, S.hs.i, b, fun x hx => ?_⟩, fun j d' e n => ?_, fun j d' e n => ?_, fun j k d e p a b => S.apart j k d e p (hs j a).1 (hs k b).1⟩, a⟩
        · by_cases hxq : x = q
          · subst hxq; exact .inr ni
          · rw [c x hxq] at hx; exact S.hs.x x hx
        · by_cases hj : j = i
          · subst hj
            rw [hρ] at e; cases e
            exact ⟨_, e1, r⟩
          · obtain ⟨v, e2, r2⟩ := S.shr j d' e fun z => (hs2 j z).elim hj n
            exact ⟨v, e2, r2.up a⟩
        · obtain ⟨hjo, hji⟩ := hs j n
          obtain ⟨q2, e2, n2, ni2, o2⟩ := S.ownd j d' e hjo
          have hne : q2 ≠ q := fun z => hji (S.apart j i d' d q hjo hi e hρ (by rw [e2, z]) e1)
          exact ⟨q2, e2, by rw [c q2 hne]; exact n2, ni2, o2.up a fun _ h => h⟩
  · refine ⟨H0, ⟨S.len, S.hs, fun j d e n => ?_, fun j d e n => S.ownd j d e (hs j n).1, fun j k d e p a b => S.apart j k d e p (hs j a).1 (hs k b).1⟩, Same.refl _⟩
    refine S.shr j d e fun z => ?_
    rcases hs2 j z with rfl | z
    · exact hi z
    · exact n z
theorem ds_free (i : Nat) (hs : own' = own.filter (· != i) := by rfl) (h : DS X Z L own' own'' st m) : DS X Z L own own'' st m := by
  refine PS.mono h fun Dn σ H ⟨H0, ρ, S, q⟩ => ?_
  obtain ⟨H1, S1, s1⟩ := S.freeze (own' := own') i (fun j hj => by rw [hs, List.mem_filter] at hj; exact ⟨hj.1, by simpa using hj.2⟩) (fun j hj => by
    by_cases e : j = i
    · exact .inl e
    · right; rw [hs, List.mem_filter]; exact ⟨hj, by simpa using e⟩)
  exact ⟨H1, ρ, S1, Post.mono s1 q (fun ρ2 e2 σ2 H2 H02 S2 s2 k => k σ2 H2 H02 S2 (s1.trans s2)) rfl rfl rfl⟩
theorem dss_free (i : Nat) (hs : own' = own.filter (· != i) := by rfl) (h : DSs X Z L own' own'' sts m) : DSs X Z L own own'' sts m := by
  refine PSs.mono h fun Dn σ H ⟨H0, ρ, S, q⟩ => ?_
  obtain ⟨H1, S1, s1⟩ := S.freeze (own' := own') i (fun j hj => by rw [hs, List.mem_filter] at hj; exact ⟨hj.1, by simpa using hj.2⟩) (fun j hj => by
    by_cases e : j = i
    · exact .inl e
    · right; rw [hs, List.mem_filter]; exact ⟨hj, by simpa using e⟩)
  exact ⟨H1, ρ, S1, Post.mono s1 q (fun ρ2 e2 σ2 H2 H02 S2 s2 k => k σ2 H2 H02 S2 (s1.trans s2)) rfl rfl rfl⟩

/-! small statements -/
def sSet (i : Nat) (f : ME) : MS := fun ρ => match f ρ with
  | some d => .nx (ρ.set i (some d))
  | none => .no
def sRet (f : ME) : MS := fun ρ => match f ρ with
  | some d => .rt d
  | none => .no
def sIf (p : MB) (m n : MS) : MS := fun ρ => match p ρ with
  | some true => m ρ
  | some false => n ρ
  | none => .no
def sBreak : MS := fun ρ => .bk ρ
def sCont : MS := fun ρ => .ct ρ
theorem get_set {α : Type} {l : List α} {i j : Nat} {x y : α} (h : (l.set i x)[j]? = some y) : (j = i ∧ i < l.length ∧ y = x) ∨ (j ≠ i ∧ l[j]? = some y) := by
  rw [List.getElem?_set] at h
  by_cases e : i = j
  · rw [if_pos e] at h
    subst e
    by_cases hl : i < l.length
    · rw [if_pos hl] at h
      cases h
      exact .inl ⟨rfl, hl, rfl⟩
    · rw [if_neg hl] at h; cases h
  · rw [if_neg e] at h
    exact .inr ⟨fun z => e z.symm, h⟩
/-- a slot is stored: shared -/
theorem SR.put {K : PySem.W.Frag} {σ : St} {H0 H : Hp} {ρ : Env'} {i : Nat} {v : V} {d : D} (S : SR K Z own σ H0 H ρ) (hi : i ∉ own) (r : Rep K H0 v d) : SR K Z own (σ.set i (some v)) H0 H (ρ.set i (some d)) := by
  refine ⟨by rw [List.length_set, List.length_set]; exact S.len, S.hs, fun j d' e n => ?_, fun j d' e n => ?_, fun j k d1 d2 p a b e1 e2 e3 e4 => ?_⟩
  · rcases get_set e with ⟨rfl, hl, e2⟩ | ⟨hj, e2⟩
    · cases e2
      exact ⟨v, by rw [List.getElem?_set_self (by rw [S.len]; exact hl)], r⟩
    · obtain ⟨w, e3, r3⟩ := S.shr j d' e2 n
      exact ⟨w, by rw [List.getElem?_set_ne (Ne.symm hj)]; exact e3, r3⟩
  · rcases get_set e with ⟨rfl, hl, e2⟩ | ⟨hj, e2⟩
    · exact absurd n hi
    · obtain ⟨w, e3, r3⟩ := S.ownd j d' e2 n
      exact ⟨w, by rw [List.getElem?_set_ne (Ne.symm hj)]; exact e3, r3⟩
  · have hj : j ≠ i := fun z => hi (z ▸ a)
    have hk : k ≠ i := fun z => hi (z ▸ b)
    rw [List.getElem?_set_ne (Ne.symm hj)] at e1 e3
    rw [List.getElem?_set_ne (Ne.symm hk)] at e2 e4
    exact S.apart j k d1 d2 p a b e1 e2 e3 e4
theorem ds_set {i : Nat} {x : Str} {pos' : Pos} (hN : X.N.Nodup) (he : DE X Z own e f) (hio : i ∉ own := by decide) (hi : X.N[i]? = some x := by rfl) (hx : Loc X.env.scope x := by first | exact Or.inl rfl | exact Or.inr rfl) (hs : swapsWith e (some (.Name x pos')) pos.line X.env = pure false := by rfl)
    (hf : X.fn x = true ∨ X.env.scope.names.lookup x = some .local := by first | exact .inl rfl | exact .inr rfl) : DS X Z L own own (.Assign [.Name x pos'] e pos) (sSet i f) := by
  refine PS.mono (ps_set hN hi hx he hs hf) fun Dn σ H ⟨H0, ρ, S, q⟩ => ?_
  unfold sSet at q
  split at q
  · rename_i d h1
    exact tD.one S h1 fun v H1 H01 S1 g1 r1 => q _ _ H01 (S1.put hio r1) g1.s0
  · exact q.elim
/-- a name that holds a new thing of its own -/
theorem SR.putOwn {K : PySem.W.Frag} {σ : St} {H0 H : Hp} {ρ : Env'} {i : Nat} {q : Addr} {d : D} (S : SR K Z own σ H0 H ρ) (hi : i ∉ own) (n0 : H0 q = none) (ni : Z.i q = none) (ap : ∀ j d, j ∈ own → ρ[j]? = some (some d) → σ[j]? ≠ some (some (.ref q))) (o : OwnAt K H0 H q d) :
    SR K Z (i :: own) (σ.set i (some (.ref q))) H0 H (ρ.set i (some d)) := by
  refine ⟨by rw [List.length_set, List.length_set]; exact S.len, S.hs, fun j d' e n => ?_, fun j d' e n => ?_, fun j k d1 d2 p a b e1 e2 e3 e4 => ?_⟩
  · rcases get_set e with ⟨rfl, hl, e2⟩ | ⟨hj, e2⟩
    · exact absurd List.mem_cons_self n
    · obtain ⟨w, e3, r3⟩ := S.shr j d' e2 fun z => n (List.mem_cons_of_mem _ z)
      exact ⟨w, by rw [List.getElem?_set_ne (Ne.symm hj)]; exact e3, r3⟩
  · rcases get_set e with ⟨rfl, hl, e2⟩ | ⟨hj, e2⟩
    · cases e2
      exact ⟨q, by rw [List.getElem?_set_self (by rw [S.len]; exact hl)], n0, ni, o⟩
    · have n' : j ∈ own := (List.mem_cons.mp n).elim (fun z => absurd z hj) id
      obtain ⟨w, e3, r3⟩ := S.ownd j d' e2 n'
      exact ⟨w, by rw [List.getElem?_set_ne (Ne.symm hj)]; exact e3, r3⟩
  · by_cases hj : j = i
    · by_cases hk : k = i
      · rw [hj, hk]
      · have hk' : k ∈ own := (List.mem_cons.mp b).elim (fun z => absurd z hk) id
        rw [List.getElem?_set_ne (Ne.symm hk)] at e2 e4
        subst hj
        rcases get_set e3 with ⟨_, _, z⟩ | ⟨z, _⟩
        · cases z; exact absurd e4 (ap k d2 hk' e2)
        · exact absurd rfl z
    · have hj' : j ∈ own := (List.mem_cons.mp a).elim (fun z => absurd z hj) id
      rw [List.getElem?_set_ne (Ne.symm hj)] at e1 e3
      by_cases hk : k = i
      · subst hk
        rcases get_set e4 with ⟨_, _, z⟩ | ⟨z, _⟩
        · cases z; exact absurd e3 (ap j d1 hj' e1)
        · exact absurd rfl z
      · have hk' : k ∈ own := (List.mem_cons.mp b).elim (fun z => absurd z hk) id
        rw [List.getElem?_set_ne (Ne.symm hk)] at e2 e4
        exact S.apart j k d1 d2 p hj' hk' e1 e2 e3 e4
theorem tF.owned {K : PySem.W.Frag} {σ : St} {H : Hp} {H0 : Hp} {ρ : Env'} {d : D} (i : Nat) (S : SR K Z own σ H0 H ρ) (h1 : f ρ = some d) (hio : i ∉ own) {Q : VK} (q : ∀ p H' H0', SR K Z (i :: own) (σ.set i (some (.ref p))) H0' H' (ρ.set i (some d)) → Grow H0 H H0' H' → Q (.ref p) H') : tF K Z own f σ H Q := by
  refine ⟨H0, ρ, d, S, h1, fun p H' H0' g n n0 o => q p H' H0' ((S.grow g).putOwn hio n0 (Same.free S.hs.i n) (fun j d' hj e z => ?_) o) g⟩
  obtain ⟨p', e3, _, _, o'⟩ := S.ownd j d' e hj
  rw [e3] at z
  cases z
  exact o'.some n
theorem ds_own {i : Nat} {x : Str} {pos' : Pos} (hN : X.N.Nodup) (he : DF X Z own e f) (hio : i ∉ own := by decide) (hi : X.N[i]? = some x := by rfl) (hx : Loc X.env.scope x := by first | exact Or.inl rfl | exact Or.inr rfl) (hs : swapsWith e (some (.Name x pos')) pos.line X.env = pure false := by rfl)
    (hf : X.fn x = true ∨ X.env.scope.names.lookup x = some .local := by first | exact .inl rfl | exact .inr rfl) : DS X Z L own (i :: own) (.Assign [.Name x pos'] e pos) (sSet i f) := by
  refine PS.mono (ps_set hN hi hx he hs hf) fun Dn σ H ⟨H0, ρ, S, q⟩ => ?_
  unfold sSet at q
  split at q
  · rename_i d h1
    exact tF.owned i S h1 hio fun p H' H0' S' g => q _ _ H0' S' g.s0
  · exact q.elim
theorem ds_ret (he : DE X Z own e f) (hfl : frl L = false := by rfl) : DS X Z L own own' (.Return (some e) pos) (sRet f) := by
  refine PS.mono (ps_ret he) fun Dn σ H ⟨H0, ρ, S, q⟩ => ?_
  unfold sRet at q
  split at q
  · rename_i d h1
    exact tD.one S h1 fun v H1 H01 S1 g1 r1 => q v H1 H01 S1.hs (by rw [hfl]; exact r1)
  · exact q.elim
theorem ds_if {c : Expr} {as bs : List Stmt} (hc : DT X Z own c p) (ha : DSs X Z L own own' as m) (hb : DSs X Z L own own' bs n) : DS X Z L own own' (.If c as bs pos) (sIf p m n) := by
  refine PS.mono (ps_if hc ha hb) fun Dn σ H ⟨H0, ρ, S, q⟩ => ?_
  unfold sIf at q
  split at q
  · rename_i h1
    refine tB'.one S h1 fun H1 H01 S1 g1 => ?_
    rw [if_pos rfl]
    exact ⟨H01, ρ, S1, Post.mono g1.s0 q (fun ρ2 e2 σ2 H2 H02 S2 s2 k => k σ2 H2 H02 S2 (g1.s0.trans s2)) rfl rfl rfl⟩
  · rename_i h1
    refine tB'.one S h1 fun H1 H01 S1 g1 => ?_
    rw [if_neg Bool.false_ne_true]
    exact ⟨H01, ρ, S1, Post.mono g1.s0 q (fun ρ2 e2 σ2 H2 H02 S2 s2 k => k σ2 H2 H02 S2 (g1.s0.trans s2)) rfl rfl rfl⟩
  · exact q.elim
theorem ds_pass : DS X Z L own own (.Pass pos) sNext := PS.mono ps_pass fun Dn σ H ⟨H0, ρ, S, q⟩ => q σ H H0 S (Same.refl _)
theorem ds_break : DS X Z own own own' (.Break pos) sBreak := PS.mono ps_break fun Dn σ H ⟨H0, ρ, S, q⟩ => q σ H H0 S (Same.refl _)
theorem ds_cont : DS X Z own own own' (.Continue pos) sCont := PS.mono ps_continue fun Dn σ H ⟨H0, ρ, S, q⟩ => q σ H H0 S (Same.refl _)
/-- an expression whose value is dropped -/
def sDrop (f : ME) : MS := fun ρ => match f ρ with
  | some _ => .nx ρ
  | none => .no
theorem ds_expr (he : DE X Z own e f) (hs : swapsWith e none pos.line X.env = pure false := by rfl) : DS X Z L own own (.Expr e pos) (sDrop f) := by
  refine PS.mono (ps_expr he hs) fun Dn σ H ⟨H0, ρ, S, q⟩ => ?_
  unfold sDrop at q
  split at q
  · rename_i d h1
    exact tD.one S h1 fun v H1 H01 S1 g1 r1 => q σ H1 H01 S1 g1.s0
  · exact q.elim
theorem ds_doc {x j pos'} : DS X Z L own own (.Expr (.Constant (.str x) j pos) pos') sNext := PS.mono ps_doc fun Dn σ H ⟨H0, ρ, S, q⟩ => q σ H H0 S (Same.refl _)

/-! x.append(e), x a name's own list -/
def sApp (i : Nat) (f : ME) : MS := fun ρ => match (ρ[i]?).join, f ρ with
  | some (.lst ds), some d => if ds.length < 16777216 then .nx (ρ.set i (some (.lst (ds ++ [d])))) else .no
  | _, _ => .no
theorem join_some {ρ : Env'} {i : Nat} {d : D} (h : (ρ[i]?).join = some d) : ρ[i]? = some (some d) := by
  cases q : ρ[i]? with
  | none => rw [q] at h; cases h
  | some o => rw [q] at h; exact congrArg _ h
/-- an owned list, or dict, is changed -/
theorem SR.turn {K : PySem.W.Frag} {σ : St} {H0 H : Hp} {ρ : Env'} {i : Nat} {q : Addr} {d d' : D} {o : HO} (S : SR K Z own σ H0 H ρ) (hi : i ∈ own) (e : ρ[i]? = some (some d)) (eσ : σ[i]? = some (some (.ref q))) (hn : OwnAt K H0 (upd H q o) q d') :
    SR K Z own σ H0 (upd H q o) (ρ.set i (some d')) := by
  obtain ⟨q', e1, n0, ni, o1⟩ := S.ownd i d e hi
  rw [eσ] at e1
  cases e1
  refine ⟨by rw [List.length_set]; exact S.len, ⟨S.hs.z, fun b u h => ?_, fun b u h => ?_, S.hs.x⟩, fun j d2 e2 n => ?_, fun j d2 e2 n => ?_, fun j k d1 d2 p a b e1 e2 e3 e4 => ?_⟩
  · rw [upd_ne (ne_of_none h ni)]; exact S.hs.i b u h
  · rw [upd_ne (ne_of_none h n0)]; exact S.hs.s b u h
  · rcases get_set e2 with ⟨rfl, _, _⟩ | ⟨hj, e3⟩
    · exact absurd hi n
    · exact S.shr j d2 e3 n
  · rcases get_set e2 with ⟨rfl, _, z⟩ | ⟨hj, e3⟩
    · cases z; exact ⟨q, eσ, n0, ni, hn⟩
    · obtain ⟨p, e4, m0, mi, o4⟩ := S.ownd j d2 e3 n
      have hp : p ≠ q := fun z => hj (S.apart j i d2 d q n hi e3 e (by rw [e4, z]) eσ)
      exact ⟨p, e4, m0, mi, o4.up (Same.refl _) fun u hu => by rw [upd_ne hp]; exact hu⟩
  · have f1 : ∃ d1, ρ[j]? = some (some d1) := by
      rcases get_set e1 with ⟨rfl, _, _⟩ | ⟨_, z⟩
      · exact ⟨d, e⟩
      · exact ⟨d1, z⟩
    have f2 : ∃ d2, ρ[k]? = some (some d2) := by
      rcases get_set e2 with ⟨rfl, _, _⟩ | ⟨_, z⟩
      · exact ⟨d, e⟩
      · exact ⟨d2, z⟩
    obtain ⟨d1', f1⟩ := f1
    obtain ⟨d2', f2⟩ := f2
    exact S.apart j k d1' d2' p a b f1 f2 e3 e4
theorem ds_app {i : Nat} {x : Str} {p1 p2 p3 : Pos} (he : DE X Z own e f) (hio : i ∈ own := by decide) (hN : X.N[i]? = some x := by rfl) (hv : Vis X.env.scope x := by first | exact Or.inl rfl | exact Or.inr (Or.inl rfl) | exact Or.inr (Or.inr rfl)) (hd : (x == ("__debug__" : Str)) = false := by decide)
    (hcd : (x == ("__classdict__" : Str)) = false := by decide)
    (hbase : attributeBase (.Name x p1) "append" X.env (eval (.Name x p1) X.env) = eval (.Name x p1) X.env := by rfl)
    (hfew : ((backTo p3 (starEach [e] X.env)).all (fun x => !x.1) && (backToKw p3 (keywordEach [] X.env)).all (fun x => x.1.isSome) && decide (([e] : List Expr).length + ([] : List Keyword).length + (if ([] : List Keyword).isEmpty then 0 else 1) < 30)) = true := by rfl)
    (hline : (p2.endLine == p3.line) = true := by rfl) (hse : starEach [e] X.env = (false, eval e X.env) :: starEach [] X.env := by rfl) (hplain : (backTo p3 (starEach [] X.env)).any (·.1) = false := by rfl)
    (hs : swapsWith (.Call (.Attribute (.Name x p1) "append" p2) [e] [] p3) none pos.line X.env = pure false := by rfl) : DS X Z L own own (.Expr (.Call (.Attribute (.Name x p1) "append" p2) [e] [] p3) pos) (sApp i f) := by
  refine PS.mono (ps_expr (pe_bm PySem.F.plainAttrs_list PySem.F.slot_list_append PySem.F.type_list_append mt_append (pe_var hN hv hd hcd) (pa_cons he pa_nil hse) hbase hfew hline hse hplain) hs) fun Dn σ H ⟨H0, ρ, S, q⟩ => ?_
  unfold sApp at q
  split at q
  · rename_i ds d h1 h2
    split at q
    · rename_i hl
      have e1 := join_some h1
      obtain ⟨a, e2, n0, ni, vs, o, r⟩ := S.ownd i _ e1 hio
      refine ⟨_, e2, .inl ⟨rfl, _, SqL.of o⟩, ?_⟩
      refine tD.one S h2 fun v H1 H01 S1 g1 r1 => ?_
      obtain ⟨a', e2', n0', ni', vs', o', r'⟩ := S1.ownd i _ e1 hio
      rw [e2] at e2'
      cases e2'
      refine ⟨a, vs', v, rfl, rfl, o', by rw [r'.length, szl]; exact hl, ?_⟩
      exact q σ _ H01 (S1.turn hio e1 e2 ⟨_, upd_same, r'.append (.cons r1 .nil)⟩) g1.s0
    · exact q.elim
  · exact q.elim
end
end BW

set_option maxRecDepth 100000
namespace BW
open PySem PySem.Spec L2

/-! ### targets of an assignment or a loop -/
abbrev MG := D → Env' → Option Env'
/-- the same but at some slots -/
def Agree (ss : List Nat) (σ σ' : St) : Prop := σ'.length = σ.length ∧ ∀ j, j ∉ ss → σ'[j]? = σ[j]?
theorem Agree.refl (ss : List Nat) (σ : St) : Agree ss σ σ := ⟨rfl, fun _ _ => rfl⟩
theorem Agree.trans {ss tt : List Nat} {σ σ' σ'' : St} (a : Agree ss σ σ') (b : Agree tt σ' σ'') : Agree (ss ++ tt) σ σ'' := ⟨b.1.trans a.1, fun j hj => by
  rw [b.2 j fun z => hj (List.mem_append_right _ z), a.2 j fun z => hj (List.mem_append_left _ z)]⟩
def tDG (K : PySem.W.Frag) (Z : Fm) (own : List Nat) (ss : List Nat) (g : MG) : TG := fun v σ H Q => ∃ H0 ρ d ρ', SR K Z own σ H0 H ρ ∧ Rep K H0 v d ∧ g d ρ = some ρ' ∧ ∀ σ', SR K Z own σ' H0 H ρ' → Agree ss σ σ' → Q σ' H
def DG (X : Cx) (Z : Fm) (own : List Nat) (tg : Expr) (ss : List Nat) (g : MG) : Prop := PG X tg (tDG X.K Z own ss g)
theorem PG.mono {X : Cx} {e : Expr} {t t' : TG} (h : PG X e t) (i : ∀ v σ H Q, t' v σ H Q → t v σ H Q) : PG X e t' := ⟨fun pins s σ H v u Q I r q => h.run pins s σ H v u Q I r (i v σ H Q q)⟩
theorem PGs.mono {X : Cx} {e : List Expr} {t t' : TGs} (h : PGs X e t) (i : ∀ v σ H Q, t' v σ H Q → t v σ H Q) : PGs X e t' := ⟨fun pins s σ H v u Q I r q => h.run pins s σ H v u Q I r (i v σ H Q q)⟩
def gPut (i : Nat) : MG := fun d ρ => some (ρ.set i (some d))
abbrev MGs := List D → Env' → Option Env'
def tDGs (K : PySem.W.Frag) (Z : Fm) (own : List Nat) (ss : List Nat) (g : MGs) : TGs := fun vs σ H Q => ∃ H0 ρ ds ρ', SR K Z own σ H0 H ρ ∧ RepL K H0 vs ds ∧ g ds ρ = some ρ' ∧ ∀ σ', SR K Z own σ' H0 H ρ' → Agree ss σ σ' → Q σ' H
def DGs (X : Cx) (Z : Fm) (own : List Nat) (tg : List Expr) (ss : List Nat) (g : MGs) : Prop := PGs X tg (tDGs X.K Z own ss g)
def gsNil : MGs := fun ds ρ => match ds with
  | [] => some ρ
  | _ => none
def gsCons (g : MG) (h : MGs) : MGs := fun ds ρ => match ds with
  | d :: r => (g d ρ).bind fun ρ' => h r ρ'
  | [] => none
def gTupD (n : Nat) (g : MGs) : MG := fun d ρ => match d with
  | .tup ds => if ds.length = n then g ds ρ else none
  | _ => none
section
variable {X : Cx} {Z : Fm} {own : List Nat} {pos : Pos} {e : Expr} {es : List Expr} {g : MG} {gs : MGs} {ss tt : List Nat}
theorem dg_name (i : Nat) {x : Str} (hN : X.N.Nodup) (hio : i ∉ own := by decide) (hi : X.N[i]? = some x := by rfl) (hx : Loc X.env.scope x := by first | exact Or.inl rfl | exact Or.inr rfl)
    (hf : X.fn x = true ∨ X.env.scope.names.lookup x = some .local := by first | exact .inl rfl | exact .inr rfl) : DG X Z own (.Name x pos) [i] (gPut i) :=
  PG.mono (pg_name hN hi hx hf) fun v σ H Q ⟨H0, ρ, d, ρ', S, r, e, q⟩ => by
    cases e
    exact q _ (S.put hio r) ⟨List.length_set, fun j hj => List.getElem?_set_ne fun z => hj (by rw [z]; exact List.mem_cons_self)⟩
theorem dgs_nil : DGs X Z own [] [] gsNil := PGs.mono pgs_nil fun vs σ H Q ⟨H0, ρ, ds, ρ', S, r, e, q⟩ => by
  unfold gsNil at e
  split at e
  · cases e; cases r; exact ⟨rfl, q _ S (Agree.refl _ _)⟩
  · cases e
theorem dgs_cons (h : DG X Z own e ss g) (h' : DGs X Z own es tt gs) (hs : (assignEach (e :: es) X.env).map (·.2) = assign e X.env :: (assignEach es X.env).map (·.2) := by rfl) : DGs X Z own (e :: es) (ss ++ tt) (gsCons g gs) := by
  refine PGs.mono (pgs_cons h h' hs) fun vs σ H Q ⟨H0, ρ, ds, ρ', S, r, e, q⟩ => ?_
  unfold gsCons at e
  split at e
  · rename_i d ds'
    cases r with
    | cons a b =>
      cases h1 : g d ρ with
      | none => rw [h1] at e; cases e
      | some ρ1 =>
        rw [h1] at e
        exact ⟨_, _, rfl, H0, ρ, d, ρ1, S, a, h1, fun σ1 S1 A1 => ⟨H0, ρ1, ds', ρ', S1, b, e, fun σ2 S2 A2 => q σ2 S2 (A1.trans A2)⟩⟩
  · cases e
theorem dg_tup {k n : Nat} (hc : X.calm = true) (h : DGs X Z own es ss gs) (hn : (assignEach es X.env).length = n := by rfl) (hst : (assignEach es X.env).findIdx? (·.1) = none := by rfl) : DG X Z own (.Tuple es k pos) ss (gTupD n gs) := by
  refine PG.mono (pg_tup hc h hn hst) fun v σ H Q ⟨H0, ρ, d, ρ', S, r, e, q⟩ => ?_
  unfold gTupD at e
  split at e
  · rename_i ds
    split at e
    · rename_i hl
      obtain ⟨a, xs, rfl, hq, rl⟩ := r.tup_inv
      exact ⟨a, xs, rfl, Same.seqT S.hs.s hq, by rw [rl.length]; exact hl, H0, ρ, ds, ρ', S, rl, e, q⟩
    · cases e
  · cases e
/-- target = value -/
def sAsg (f : ME) (g : MG) : MS := fun ρ => match f ρ with
  | some d => (match g d ρ with
    | some ρ' => .nx ρ'
    | none => .no)
  | none => .no
variable {L : List Nat} {f : ME} {tg : Expr}
theorem ds_asg (he : DE X Z own e f) (hg : DG X Z own tg ss g) (hs : swapsWithSole [tg] e pos.line X.env = pure false := by rfl) (hw : swappedStores [tg] e X.env = pure none := by rfl) (h1 : (assignEach [tg] X.env).map (·.2) = [assign tg X.env] := by rfl) :
    DS X Z L own own (.Assign [tg] e pos) (sAsg f g) := by
  refine PS.mono (ps_asg he hg hs hw h1) fun Dn σ H ⟨H0, ρ, S, q⟩ => ?_
  unfold sAsg at q
  split at q
  · rename_i d h2
    split at q
    · rename_i ρ' h3
      exact tD.one S h2 fun v H1 H01 S1 g1 r1 => ⟨H01, ρ, d, ρ', S1, r1, h3, fun σ' S' _ => q σ' H1 H01 S' g1.s0⟩
    · exact q.elim
  · exact q.elim
end

/-! ### loops -/
/-- what a loop walks: data, one after another -/
def tDI (K : PySem.W.Frag) (Z : Fm) (own : List Nat) (f : MA) : TI := fun σ H R => ∃ H0 ρ ds, SR K Z own σ H0 H ρ ∧ f ρ = some ds ∧ ∀ (J : It) H' H0', Grow H0 H H0' H' →
  (∀ i H2 H02, Same H0' H02 → Same H02 H2 → (∀ d, ds[i]? = some d → J.go i H2) ∧ (ds.length ≤ i → J.stop i H2) ∧ (∀ d x H3, ds[i]? = some d → J.yld i H2 x H3 → ∃ H03, Grow H02 H2 H03 H3 ∧ Rep K H03 x d)) → R J H'
def DI (X : Cx) (Z : Fm) (own : List Nat) (tg it : Expr) (f : MA) : Prop := PI X tg it (tDI X.K Z own f)
theorem PI.mono {X : Cx} {tg e : Expr} {t t' : TI} (h : PI X tg e t) (i : ∀ σ H R, t' σ H R → t σ H R) : PI X tg e t' := ⟨fun pins s σ H R I q => h.run pins s σ H R I (i σ H R q)⟩
def iLst (f : ME) : MA := fun ρ => match f ρ with
  | some (.lst ds) => some ds
  | _ => none
def iTupD (f : ME) : MA := fun ρ => match f ρ with
  | some (.tup ds) => some ds
  | _ => none
def rng (lo : Int) (n : Nat) : List D := (List.range n).map fun (k : Nat) => D.int (lo + (k : Int))
def small (i : Int) : Bool := decide (-4611686018427387904 ≤ i) && decide (i < 4611686018427387904)
def iRange1 (f : ME) : MA := fun ρ => match f ρ with
  | some (.int j) => if small j then some (rng 0 j.toNat) else none
  | _ => none
def iRange2 (f g : ME) : MA := fun ρ => match f ρ, g ρ with
  | some (.int i), some (.int j) => if small i && small j then some (rng i (j - i).toNat) else none
  | _, _ => none
theorem small_iff {i : Int} (h : small i = true) : -(2 ^ 62) ≤ i ∧ i < 2 ^ 62 := by
  unfold small at h
  rw [Bool.and_eq_true] at h
  exact ⟨of_decide_eq_true h.1, of_decide_eq_true h.2⟩
theorem rng_get {lo : Int} {n i : Nat} {d : D} (h : (rng lo n)[i]? = some d) : i < n ∧ d = .int (lo + (i : Int)) := by
  unfold rng at h
  rw [List.getElem?_map] at h
  by_cases hi : i < n
  · rw [List.getElem?_range hi] at h
    cases h
    exact ⟨hi, rfl⟩
  · rw [List.getElem?_eq_none (by rw [List.length_range]; omega)] at h
    cases h
theorem rng_len {lo : Int} {n : Nat} : (rng lo n).length = n := by unfold rng; rw [List.length_map, List.length_range]
section
variable {X : Cx} {Z : Fm} {own own' L : List Nat} {pos p : Pos} {tg e a b : Expr} {f f' : ME} {fs : MA} {g : MG} {m : MS} {ss : List Nat}
theorem di_list (h : DE X Z own e f) : DI X Z own tg e (iLst f) := by
  refine PI.mono (pi_list h) fun σ H R ⟨H0, ρ, ds, S, e, q⟩ => ?_
  unfold iLst at e
  split at e
  · rename_i ds' h1
    cases e
    refine tD.one S h1 fun v H1 H01 S1 g1 r1 => ?_
    obtain ⟨a, xs, rfl, hq, rl⟩ := r1.lst_inv
    refine ⟨a, rfl, ⟨xs, g1.sub.seq hq⟩, q _ _ _ g1 fun i H2 H02 s s2 => ⟨fun d hd => ?_, fun hl => ⟨xs, s2.seq (s.seq hq), by rw [rl.length]; exact hl⟩, fun d x H3 hd hy => ?_⟩⟩
    · obtain ⟨w, hw, _⟩ := rl.get hd
      exact ⟨xs, w, s2.seq (s.seq hq), hw⟩
    · obtain ⟨rfl, hy⟩ := hy
      obtain ⟨w, hw, rw'⟩ := rl.get hd
      have := hy xs (s2.seq (s.seq hq))
      rw [hw] at this
      cases this
      exact ⟨H02, Grow.refl s2, rw'.up s⟩
  · cases e
theorem di_tup (h : DE X Z own e f) : DI X Z own tg e (iTupD f) := by
  refine PI.mono (pi_tup h) fun σ H R ⟨H0, ρ, ds, S, e, q⟩ => ?_
  unfold iTupD at e
  split at e
  · rename_i ds' h1
    cases e
    refine tD.one S h1 fun v H1 H01 S1 g1 r1 => ?_
    obtain ⟨a, xs, rfl, hq, rl⟩ := r1.tup_inv
    refine ⟨a, rfl, ⟨xs, Same.seqT g1.sub hq⟩, q _ _ _ g1 fun i H2 H02 s s2 => ⟨fun d hd => ?_, fun hl => ⟨xs, Same.seqT s2 (Same.seqT s hq), by rw [rl.length]; exact hl⟩, fun d x H3 hd hy => ?_⟩⟩
    · obtain ⟨w, hw, _⟩ := rl.get hd
      exact ⟨xs, w, Same.seqT s2 (Same.seqT s hq), hw⟩
    · obtain ⟨rfl, hy⟩ := hy
      obtain ⟨w, hw, rw'⟩ := rl.get hd
      have := hy xs (Same.seqT s2 (Same.seqT s hq))
      rw [hw] at this
      cases this
      exact ⟨H02, Grow.refl s2, rw'.up s⟩
  · cases e
theorem di_range1 (hm : X.mg "range" = none) (h : DE X Z own a f) (hg : Gl X "range" := by rfl) (hsa : starEach [a] X.env = (false, eval a X.env) :: starEach [] X.env := by rfl) (hs : starEach [a] X.env = [(false, eval a X.env)] := by rfl) : DI X Z own tg (.Call (.Name "range" p) [a] [] pos) (iRange1 f) := by
  refine PI.mono (pi_range1 hg hm (pa_cons h pa_nil hsa) hs) fun σ H R ⟨H0, ρ, ds, S, e, q⟩ => ?_
  unfold iRange1 at e
  split at e
  · rename_i j h1
    split at e
    · rename_i hj
      cases e
      refine tD.one S h1 fun v H1 H01 S1 g1 r1 => ?_
      have hs := small_iff hj
      refine ⟨j, by rw [r1.int_inv], hs.1, hs.2, q _ _ _ g1 fun i H2 H02 s s2 => ⟨fun d hd => (rng_get hd).1, fun hl => by rw [rng_len] at hl; exact hl, fun d x H3 hd hy => ?_⟩⟩
      obtain ⟨rfl, rfl⟩ := hy
      rw [(rng_get hd).2]
      exact ⟨H02, Grow.refl s2, .int _⟩
    · cases e
  · cases e
theorem di_range2 (hm : X.mg "range" = none) (h : DE X Z own a f) (h' : DE X Z own b f') (hg : Gl X "range" := by rfl) (hsa : starEach [a, b] X.env = (false, eval a X.env) :: starEach [b] X.env := by rfl) (hsb : starEach [b] X.env = (false, eval b X.env) :: starEach [] X.env := by rfl)
    (hs : starEach [a, b] X.env = [(false, eval a X.env), (false, eval b X.env)] := by rfl) (hs2 : starEach [b] X.env = [(false, eval b X.env)] := by rfl) : DI X Z own tg (.Call (.Name "range" p) [a, b] [] pos) (iRange2 f f') := by
  refine PI.mono (pi_range2 hg hm (pa_cons h (pa_cons h' pa_nil hsb) hsa) hs hs2) fun σ H R ⟨H0, ρ, ds, S, e, q⟩ => ?_
  unfold iRange2 at e
  split at e
  · rename_i j k h1 h2
    split at e
    · rename_i hj
      cases e
      rw [Bool.and_eq_true] at hj
      refine tD.one S h1 fun v H1 H01 S1 g1 r1 => tD.one S1 h2 fun u H1' H01' S2 g2 r2 => ?_
      have hs := small_iff hj.1
      have hs2 := small_iff hj.2
      refine ⟨j, k, by rw [r1.int_inv, r2.int_inv], ⟨hs.1, hs.2, hs2.1, hs2.2⟩, q _ _ _ (g1.trans g2) fun i H2 H02 s s2 => ⟨fun d hd => (rng_get hd).1, fun hl => by rw [rng_len] at hl; exact hl, fun d x H3 hd hy => ?_⟩⟩
      obtain ⟨rfl, rfl⟩ := hy
      rw [(rng_get hd).2]
      exact ⟨H02, Grow.refl s2, .int _⟩
    · cases e
  · cases e
/-- the loop's turns -/
def forD (g : MG) (m : MS) : List D → Env' → Res
  | [], ρ => .nx ρ
  | d :: ds, ρ => match g d ρ with
    | none => .no
    | some ρ1 => (match m ρ1 with
      | .nx ρ2 => forD g m ds ρ2
      | .ct ρ2 => forD g m ds ρ2
      | .bk ρ2 => .nx ρ2
      | .rt d => .rt d
      | .no => .no)
def sFor (fs : MA) (g : MG) (m : MS) : MS := fun ρ => match fs ρ with
  | some ds => forD g m ds ρ
  | none => .no
theorem ds_for {body : List Stmt} (hp : PassesOwn (model X.prog X.w) X.A X.env X.xe) (hc : X.calm = true) (hi : DI X Z own tg e fs) (hg : DG X Z own tg ss g) (hb : DSs X Z own own own body m) (hs : ∀ x, foldedSetIterable e X.env x = pure x := by intro _; rfl) (hfl : frl own = frl L := by rfl) :
    DS X Z L own own (.For tg e body [] pos) (sFor fs g m) := by
  refine PS.mono (ps_for hp hc hi hg hb hs) fun Dn σ H ⟨H0, ρ, S, q⟩ => ?_
  unfold sFor at q
  split at q
  · rename_i ds h1
    refine ⟨H0, ρ, ds, S, h1, fun J H1 H01 g1 hJ => ?_⟩
    -- the invariant: what is left to be walked makes what is wanted
    refine ⟨fun i k σ H => k = ds.length - i ∧ i ≤ ds.length ∧ ∃ H02 ρ2, SR X.K Z own σ H02 H ρ2 ∧ Same H01 H02 ∧ Post X.K Z L own H0 Dn (forD g m (ds.drop i) ρ2), ⟨_, rfl, Nat.zero_le _, H01, ρ, S.grow g1, Same.refl _, by rw [List.drop_zero]; exact q⟩, ?_⟩
    rintro i k σ2 H2 ⟨rfl, hi, H02, ρ2, S2, s2, q2⟩
    have s02 : Same H0 H02 := g1.s0.trans s2
    by_cases hl : i < ds.length
    · right
      obtain ⟨j1, _, j3⟩ := hJ i H2 H02 s2 S2.hs.s
      have hd : ds[i]? = some ds[i] := List.getElem?_eq_getElem hl
      rw [List.drop_eq_getElem_cons hl] at q2
      unfold forD at q2
      refine ⟨j1 _ hd, fun σ' H' => ∃ H03 ρ3, SR X.K Z own σ' H03 H' ρ3 ∧ Same H01 H03 ∧ Post X.K Z L own H0 Dn (forD g m (ds.drop (i + 1)) ρ3), fun σ' H' ⟨H03, ρ3, S3, s3, q3⟩ => ⟨ds.length - (i + 1), by omega, rfl, hl, H03, ρ3, S3, s3, q3⟩, fun x H3 hy => ?_⟩
      obtain ⟨H03, g3, r3⟩ := j3 _ x H3 hd hy
      have S3 := S2.grow g3
      cases h2 : g ds[i] ρ2 with
      | none => rw [h2] at q2; exact q2.elim
      | some ρ3 =>
        rw [h2] at q2
        refine ⟨H03, ρ2, ds[i], ρ3, S3, r3, h2, fun σ4 S4 _ => ⟨H03, ρ3, S4, ?_⟩⟩
        have s03 := s02.trans g3.s0
        cases h3 : m ρ3 with
        | nx ρ4 =>
          simp only [h3] at q2
          exact fun σ5 H5 H05 S5 s5 => ⟨H05, ρ4, S5, (s2.trans g3.s0).trans s5, q2⟩
        | ct ρ4 =>
          simp only [h3] at q2
          exact fun σ5 H5 H05 S5 s5 => ⟨H05, ρ4, S5, (s2.trans g3.s0).trans s5, q2⟩
        | bk ρ4 =>
          simp only [h3] at q2
          exact fun σ5 H5 H05 S5 s5 => q2 σ5 H5 H05 S5 (s03.trans s5)
        | rt d =>
          simp only [h3] at q2
          exact fun v5 H5 H05 hs5 r5 => q2 v5 H5 H05 hs5 (by rw [← hfl]; exact r5)
        | no =>
          simp only [h3] at q2
          exact q2.elim
    · left
      have e : i = ds.length := by omega
      subst e
      rw [List.drop_length] at q2
      obtain ⟨_, j2, _⟩ := hJ ds.length H2 H02 s2 S2.hs.s
      exact ⟨j2 (Nat.le_refl _), q2 σ2 H2 H02 S2 s02⟩
  · exact q.elim
/-- a while, by so many turns -/
def whileD (p : MB) (m : MS) : Nat → Env' → Res
  | 0, _ => .no
  | n + 1, ρ => match p ρ with
    | some true => (match m ρ with
      | .nx ρ2 => whileD p m n ρ2
      | .ct ρ2 => whileD p m n ρ2
      | .bk ρ2 => .nx ρ2
      | .rt d => .rt d
      | .no => .no)
    | some false => .nx ρ
    | none => .no
def sWhile (n : Nat) (p : MB) (m : MS) : MS := fun ρ => whileD p m n ρ
theorem ds_while {c : Expr} {body : List Stmt} {pb : MB} (n : Nat) (hp : PassesOwn (model X.prog X.w) X.A X.env X.xe) (hc : DT X Z own c pb) (hb : DSs X Z own own own body m) (hfl : frl own = frl L := by rfl) : DS X Z L own own (.While c body [] pos) (sWhile n pb m) := by
  refine PS.mono (ps_while hp hc hb) fun Dn σ H ⟨H0, ρ, S, q⟩ => ?_
  refine ⟨fun k σ H => ∃ H02 ρ2, SR X.K Z own σ H02 H ρ2 ∧ Same H0 H02 ∧ Post X.K Z L own H0 Dn (whileD pb m k ρ2), ⟨n, H0, ρ, S, Same.refl _, q⟩, ?_⟩
  rintro k σ2 H2 ⟨H02, ρ2, S2, s2, q2⟩
  cases k with
  | zero => exact q2.elim
  | succ k =>
    unfold whileD at q2
    cases h1 : pb ρ2 with
    | none => rw [h1] at q2; exact q2.elim
    | some b =>
      rw [h1] at q2
      refine tB'.one S2 h1 fun H3 H03 S3 g3 => ?_
      cases b with
      | false =>
        rw [if_neg Bool.false_ne_true]
        exact q2 σ2 H3 H03 S3 (s2.trans g3.s0)
      | true =>
        rw [if_pos rfl]
        refine ⟨fun σ' H' => ∃ H03 ρ3, SR X.K Z own σ' H03 H' ρ3 ∧ Same H0 H03 ∧ Post X.K Z L own H0 Dn (whileD pb m k ρ3), fun σ' H' z => ⟨k, Nat.lt_succ_self _, z⟩, H03, ρ2, S3, ?_⟩
        have s03 := s2.trans g3.s0
        cases h3 : m ρ2 with
        | nx ρ4 =>
          simp only [h3] at q2
          exact fun σ5 H5 H05 S5 s5 => ⟨H05, ρ4, S5, s03.trans s5, q2⟩
        | ct ρ4 =>
          simp only [h3] at q2
          exact fun σ5 H5 H05 S5 s5 => ⟨H05, ρ4, S5, s03.trans s5, q2⟩
        | bk ρ4 =>
          simp only [h3] at q2
          exact fun σ5 H5 H05 S5 s5 => q2 σ5 H5 H05 S5 (s03.trans s5)
        | rt d =>
          simp only [h3] at q2
          exact fun v5 H5 H05 hs5 r5 => q2 v5 H5 H05 hs5 (by rw [← hfl]; exact r5)
        | no =>
          simp only [h3] at q2
          exact q2.elim
end

/-! ### a def -/
def start' (N : Nat) (ds : List D) : Env' := ds.map some ++ List.replicate (N - ds.length) none
/-- what the body makes of the arguments -/
def runD (N : Nat) (m : MS) : MF := fun ds => match m (start' N ds) with
  | .rt d => some d
  | .nx _ => some .non
  | _ => none
theorem sr_start {K : PySem.W.Frag} {Z H : Hp} {N : List Str} {vs : List V} {ds : List D} (s : Same Z H) (r : RepL K Z vs ds) : SR K ⟨H, Z⟩ [] (L2.start N vs) Z H (start' N.length ds) := by
  refine SR.mk ?_ ⟨Same.refl _, Same.refl _, s, fun p h => .inl h⟩ (fun i d e n => ?_) (fun i d e n => by cases n) (fun i j d e p a b => by cases a)
  · unfold L2.start start'
    rw [List.length_append, List.length_append, List.length_map, List.length_map, List.length_replicate, List.length_replicate, r.length]
  · unfold start' at e
    unfold L2.start
    have hl := r.length
    by_cases hi : i < ds.length
    · rw [List.getElem?_append_left (by simpa using hi), List.getElem?_map] at e
      cases h : ds[i]? with
      | none => rw [h] at e; cases e
      | some d' =>
        rw [h] at e
        cases e
        obtain ⟨v, e1, r1⟩ := r.get h
        exact ⟨v, by rw [List.getElem?_append_left (by rw [List.length_map, hl]; exact hi), List.getElem?_map, e1]; rfl, r1⟩
    · rw [List.getElem?_append_right (by simpa using hi), List.getElem?_replicate] at e
      split at e <;> cases e
theorem Hs.toGrow {Z : Fm} {H0 H : Hp} (h : Hs Z H0 H) : Grow Z.z Z.i H0 H := ⟨h.z, h.i, h.s, fun p h1 h2 => by
  cases q : H0 p with
  | none => rfl
  | some o => exact ((h.x p (by rw [q]; exact fun z => nomatch z)).elim (fun z => z h2) fun z => h1 z).elim⟩
theorem fn_ok {P : Program} {w : World} {K : PySem.W.Frag} {mg : Str → Option Value} {base : Heap} {x qual : Str} {st : Stmt} {f : Addr} {fd : FuncData} {N ps : List Str} {k : Nat} {m : MS} (F : Fun K x qual st f fd) (S : FnScope N ps (defScope st))
    (body : ∀ (X : Cx) (Z : Fm) (cdv : Value) (A : Around) (outer : List Env) (s : Shared) (H : Hp) (E : XK), X = (cxOf CX0 P w K mg base N qual (defScope st) f cdv A outer s H E).nox → Room k X.A → PassesOwn (model X.prog X.w) X.A X.env X.xe → ∃ o, DSs X Z [] [] o (defBody st) m) :
    FnOk P w K mg base CX0 (k + 1) f fd ps (spD K ps.length (runD N.length m)) := by
  refine F.ok S (fun vs H Q E h => h.1) (fun cdv A outer s H vs Q E hr h => ?_)
  obtain ⟨hl, Z, ds, d, hz, r, e, q⟩ := h
  obtain ⟨o, hB⟩ := body _ ⟨H, Z⟩ cdv A outer s H E rfl hr PassesOwn.never
  refine ⟨_, hB, Z, _, sr_start hz r, ?_⟩
  unfold runD at e
  split at e
  · rename_i d' h1
    cases e
    rw [h1]
    exact fun v H' H0' hs rv => q v H' H0' hs.toGrow rv
  · rename_i ρ h1
    cases e
    rw [h1]
    exact fun σ H' H0' S' s => q .non H' H0' S'.hs.toGrow .non
  · cases e
theorem df_of {P : Program} {w : World} {K : PySem.W.Frag} {mg : Str → Option Value} {base : Heap} {x qual : Str} {st : Stmt} {f : Addr} {fd : FuncData} {ps : List Str} {k n : Nat} {m : MF} (F : Fun K x qual st f fd) (hb : Binds K fd ps []) (hm : mg x = some (.ref f)) (G : FnOk P w K mg base CX0 k f fd ps (spD K n m)) : Df P w K mg base k x n m :=
  ⟨f, fd, ps, G, hb, F.kp, hm⟩
/-- the law's own end -/
theorem law_sp {K : PySem.W.Frag} {m : MF} {H : Hp} {a : Addr} {ns : List Int} (hS : SqL K H a (ns.map V.int)) (h : m [.lst (ns.map .int)] = some (.bl true)) : spD K 1 m [.ref a] H (fun v _ => v = .bl true) fun _ _ _ => False :=
  ⟨rfl, H, [.lst (ns.map .int)], .bl true, Same.refl _, .cons (.lst hS RepL.ints) .nil, h, fun v H' Z' g r => r.bl_inv⟩
end BW

set_option maxRecDepth 100000
namespace BW
open PySem PySem.Spec L2

/-! ### small ones -/
def eNeg (f : ME) : ME := fun ρ => match f ρ with
  | some (.int i) => some (.int (-i))
  | _ => none
section
variable {X : Cx} {Z : Fm} {own own' L : List Nat} {pos : Pos} {a b : Expr} {f f' : ME}
theorem de_neg (h : DE X Z own a f) : DE X Z own (.UnaryOp .USub a pos) (eNeg f) := by
  refine PE.mono (pe_un un_neg h) fun σ H Q ⟨H0, ρ, r, S, e, q⟩ => ?_
  unfold eNeg at e
  split at e
  · rename_i i h1
    cases e
    exact tD.one S h1 fun v H1 H01 S1 g1 r1 => ⟨i, r1.int_inv, q _ _ _ g1 (.int _)⟩
  · cases e
theorem de_gint {x : Str} {i : Int} (hm : ∃ t, X.mg x = some (.int i t)) (hg : Gl X x := by rfl) (hd : (x == ("__debug__" : Str)) = false := by decide) : DE X Z own (.Name x pos) (eC (.int i)) := by
  obtain ⟨t, hm⟩ := hm
  exact PE.mono (pe_glob (v := .int i) hg hm ⟨t, rfl⟩ hd) fun σ H Q ⟨H0, ρ, r, S, e, q⟩ => by cases e; exact q _ H H0 (Grow.refl S.hs.s) (.int i)
end

/-! ### x[k] = e, x a name's own list -/
def sLPut (i : Nat) (fk fv : ME) : MS := fun ρ => match (ρ[i]?).join, fk ρ, fv ρ with
  | some (.lst ds), some (.int k), some d => (match ixN ds.length k with
    | some j => .nx (ρ.set i (some (.lst (ds.set j d))))
    | none => .no)
  | _, _, _ => .no
section
variable {X : Cx} {Z : Fm} {own own' L : List Nat} {pos p1 p2 : Pos} {e k : Expr} {f fk : ME} {x : Str}
theorem ds_lput {i : Nat} (hk : DE X Z own k fk) (he : DE X Z own e f) (hio : i ∈ own := by decide) (hN : X.N[i]? = some x := by rfl) (hv : Vis X.env.scope x := by first | exact Or.inl rfl | exact Or.inr (Or.inl rfl) | exact Or.inr (Or.inr rfl)) (hd : (x == ("__debug__" : Str)) = false := by decide)
    (hcd : (x == ("__classdict__" : Str)) = false := by decide)
    (ha : ∀ v, assign (.Subscript (.Name x p1) k p2) X.env v = (do
      let ov ← holding [v] (eval (.Name x p1) X.env)
      let iv ← holding [v, ov] (eval k X.env)
      standAt p2
      holding [v, ov, iv] (setItem ov iv v)
      release [v, ov, iv] []) := by intro _; rfl)
    (hs : swapsWithSole [.Subscript (.Name x p1) k p2] e pos.line X.env = pure false := by rfl) (hw : swappedStores [.Subscript (.Name x p1) k p2] e X.env = pure none := by rfl) (h1 : (assignEach [.Subscript (.Name x p1) k p2] X.env).map (·.2) = [assign (.Subscript (.Name x p1) k p2) X.env] := by rfl) :
    DS X Z L own own (.Assign [.Subscript (.Name x p1) k p2] e pos) (sLPut i fk f) := by
  refine PS.mono (ps_asg he (pg_sub (pe_var hN hv hd hcd) hk set_list ha) hs hw h1) fun Dn σ H ⟨H0, ρ, S, q⟩ => ?_
  unfold sLPut at q
  split at q
  · rename_i ds j d h1 h2 h3
    have e1 := join_some h1
    refine tD.one S h3 fun v H1 H01 S1 g1 r1 => ?_
    obtain ⟨a, e2, n0, ni, vs, o, r⟩ := S1.ownd i _ e1 hio
    refine ⟨_, e2, tD.one S1 h2 fun u H2 H02 S2 g2 r2 => ?_⟩
    obtain ⟨a', e2', n0', ni', vs', o', r'⟩ := S2.ownd i _ e1 hio
    rw [e2] at e2'
    cases e2'
    cases hx : ixN ds.length j with
    | none => simp only [hx] at q; exact q.elim
    | some m =>
      simp only [hx] at q
      refine ⟨a, vs', j, m, rfl, r2.int_inv, o', by rw [r'.length]; exact hx, ?_⟩
      exact q σ _ H02 (S2.turn hio e1 e2 ⟨_, upd_same, RepL.set (r1.up g2.s0) m r'⟩) (g1.s0.trans g2.s0)
  · exact q.elim
end

/-! ### dicts -/
def valD (es : List (Key × D)) (k : Key) : Option D := (es.find? fun p => p.1 == k).map (·.2)
def putD (es : List (Key × D)) (k : Key) (d : D) : List (Key × D) := match es with
  | [] => [(k, d)]
  | (k', d') :: r => if k' = k then (k', d) :: r else (k', d') :: putD r k d
def keyD : D → Option Key
  | .int i => some (.inl i)
  | .str x => some (.inr x)
  | _ => none
/-! ### comprehensions -/
def wipeD (ρ : Env') : List Nat → Env'
  | [] => ρ
  | v :: vs => (wipeD ρ vs).set v none
theorem wipe_get (σ : St) : ∀ (vs : List Nat) (j : Nat), (wipe σ vs)[j]? = if j ∈ vs then (σ[j]?).map (fun _ => none) else σ[j]?
  | [], j => by rw [if_neg (by simp)]; rfl
  | v :: vs, j => by
    show ((wipe σ vs).set v none)[j]? = _
    rw [List.getElem?_set, wipe_length]
    by_cases e : v = j
    · subst e
      rw [if_pos rfl, if_pos List.mem_cons_self]
      by_cases h : v < σ.length
      · rw [if_pos h, List.getElem?_eq_getElem h]; rfl
      · rw [if_neg h, List.getElem?_eq_none (by omega)]; rfl
    · rw [if_neg e, wipe_get σ vs j]
      by_cases h : j ∈ vs
      · rw [if_pos h, if_pos (List.mem_cons_of_mem _ h)]
      · rw [if_neg h, if_neg]
        intro z
        rcases List.mem_cons.mp z with z | z
        · exact e z.symm
        · exact h z
theorem wipeD_get (ρ : Env') : ∀ (vs : List Nat) (j : Nat) (d : D), (wipeD ρ vs)[j]? = some (some d) → j ∉ vs ∧ ρ[j]? = some (some d)
  | [], j, d, h => ⟨by simp, h⟩
  | v :: vs, j, d, h => by
    rcases get_set (show ((wipeD ρ vs).set v none)[j]? = some (some d) from h) with ⟨_, _, z⟩ | ⟨hj, h2⟩
    · cases z
    · obtain ⟨h3, h4⟩ := wipeD_get ρ vs j d h2
      exact ⟨fun z => (List.mem_cons.mp z).elim hj h3, h4⟩
theorem wipeD_len (ρ : Env') : ∀ vs : List Nat, (wipeD ρ vs).length = ρ.length
  | [] => rfl
  | v :: vs => by unfold wipeD; rw [List.length_set, wipeD_len ρ vs]
theorem wipe_agree {σ σ' : St} {ss vs : List Nat} (a : Agree ss (wipe σ vs) σ') (h : ∀ i ∈ ss, i ∈ vs) : wipe σ' vs = wipe σ vs := by
  refine List.ext_getElem? fun j => ?_
  rw [wipe_get σ' vs j]
  by_cases hj : j ∈ vs
  · rw [if_pos hj, wipe_get σ vs j, if_pos hj]
    have hl : σ'.length = σ.length := a.1.trans (wipe_length σ vs)
    by_cases hb : j < σ.length
    · rw [List.getElem?_eq_getElem hb, List.getElem?_eq_getElem (by omega)]; rfl
    · rw [List.getElem?_eq_none (by omega), List.getElem?_eq_none (by omega)]
  · rw [if_neg hj]
    exact a.2 j fun z => hj (h j z)
section
variable {K : PySem.W.Frag} {Z : Fm} {own : List Nat} {σ : St} {H0 H : Hp} {ρ : Env'}
theorem SR.wipe (S : SR K Z own σ H0 H ρ) (vs : List Nat) : SR K Z own (L2.wipe σ vs) H0 H (wipeD ρ vs) := by
  refine ⟨by rw [wipe_length, wipeD_len]; exact S.len, S.hs, fun j d e n => ?_, fun j d e n => ?_, fun j k d1 d2 p a b e1 e2 e3 e4 => ?_⟩
  · obtain ⟨h, e⟩ := wipeD_get ρ vs j d e
    rw [wipe_get, if_neg h]
    exact S.shr j d e n
  · obtain ⟨h, e⟩ := wipeD_get ρ vs j d e
    rw [wipe_get, if_neg h]
    exact S.ownd j d e n
  · obtain ⟨h, e1⟩ := wipeD_get ρ vs j d1 e1
    obtain ⟨h', e2⟩ := wipeD_get ρ vs k d2 e2
    rw [wipe_get, if_neg h] at e3
    rw [wipe_get, if_neg h'] at e4
    exact S.apart j k d1 d2 p a b e1 e2 e3 e4
/-- a thing on the side is changed -/
theorem SR.side (S : SR K Z own σ H0 H ρ) {p : Addr} {o : HO} (n0 : H0 p = none) (ni : Z.i p = none) (ap : ∀ i d q, i ∈ own → ρ[i]? = some (some d) → σ[i]? = some (some (V.ref q)) → q ≠ p) : SR K Z own σ H0 (upd H p o) ρ := by
  refine ⟨S.len, ⟨S.hs.z, fun b u h => by rw [upd_ne (ne_of_none h ni)]; exact S.hs.i b u h, fun b u h => by rw [upd_ne (ne_of_none h n0)]; exact S.hs.s b u h, S.hs.x⟩, S.shr, fun j d e n => ?_, S.apart⟩
  obtain ⟨q, e2, m0, mi, o2⟩ := S.ownd j d e n
  exact ⟨q, e2, m0, mi, o2.up (Same.refl _) fun u hu => by rw [upd_ne (ap j d q n e e2)]; exact hu⟩
end
theorem PTs.mono {X : Cx} {e : List Expr} {t t' : TT} (h : PTs X e t) (i : ∀ σ H Q, t' σ H Q → t σ H Q) : PTs X e t' := by
  obtain ⟨r⟩ := h
  exact ⟨fun pins s σ H Q I q => r pins s σ H Q I (i σ H Q q)⟩
def DTs (X : Cx) (Z : Fm) (own : List Nat) (es : List Expr) (f : MB) : Prop := PTs X es (tB' X.K Z own f)
def bYes : MB := fun _ => some true
theorem dts_nil {X : Cx} {Z : Fm} {own : List Nat} : DTs X Z own [] bYes := PTs.mono pts_nil fun σ H Q ⟨H0, ρ, r, S, e, q⟩ => by cases e; exact q H H0 (Grow.refl S.hs.s)
theorem dts_one {X : Cx} {Z : Fm} {own : List Nat} {c : Expr} {p : MB} (h : DT X Z own c p) : DTs X Z own [c] p := pts_one h
def compD (g : MG) (p : MB) (f : ME) (ρ : Env') : List D → Option (List D)
  | [] => some []
  | d :: ds => match g d ρ with
    | none => none
    | some ρ1 => (match p ρ1 with
      | none => none
      | some false => compD g p f ρ ds
      | some true => (match f ρ1 with
        | none => none
        | some x => (compD g p f ρ ds).map fun xs => x :: xs))
def eComp (fs : MA) (g : MG) (p : MB) (f : ME) (vs : List Nat) : ME := fun ρ => match fs ρ with
  | some ds => if ds.length ≤ 16777216 then (compD g p f (wipeD ρ vs) ds).map .lst else none
  | none => none
theorem df_comp {X : Cx} {Z : Fm} {own : List Nat} {elt tg iter : Expr} {ifs : List Expr} {scope : Scope} (names : List (Str × Nat)) {pos : Pos} {fs : MA} {ss : List Nat} {g : MG} {p : MB} {f : ME} (hc : X.calm = true) (hN : X.N.Nodup) (hi : DI X Z own tg iter fs) (ok : BlkOk X.N X.env.scope scope names)
    (hg : ∀ (s : Shared) (H : Hp) (C : Addr) (cl : List (Str × Addr)) (fp : List Addr), DG (X.blk s H scope (compEnvC scope cl C X.env) fp) Z own tg ss g) (ht : ∀ (s : Shared) (H : Hp) (C : Addr) (cl : List (Str × Addr)) (fp : List Addr), DTs (X.blk s H scope (compEnvC scope cl C X.env) fp) Z own ifs p)
    (he : ∀ (s : Shared) (H : Hp) (C : Addr) (cl : List (Str × Addr)) (fp : List Addr), DE (X.blk s H scope (compEnvC scope cl C X.env) fp) Z own elt f) (hss : ∀ i ∈ ss, i ∈ names.map (·.2) := by decide) (hs : ∀ x, foldedSetIterable iter X.env x = pure x := by intro _; rfl) :
    PE X (.ListComp elt [⟨tg, iter, ifs, 0⟩] scope pos) (tLc (tDI X.K Z own fs) (tDG X.K Z own ss g) (tB' X.K Z own p) (tD X.K Z own f) (names.map (·.2))) := pe_lc hc hN hi ok hg ht he hs
theorem tF.comp {K : PySem.W.Frag} {Z : Fm} {own : List Nat} {fs : MA} {ss vs : List Nat} {g : MG} {p : MB} {f : ME} {σ : St} {H : Hp} {Q : VK} (hss : ∀ i ∈ ss, i ∈ vs) (h : tF K Z own (eComp fs g p f vs) σ H Q) : tLc (tDI K Z own fs) (tDG K Z own ss g) (tB' K Z own p) (tD K Z own f) vs σ H Q := by
  obtain ⟨H0, ρ, d, S, e, q⟩ := h
  unfold eComp at e
  split at e
  · rename_i ds h1
    split at e
    · rename_i hsz
      obtain ⟨xs, e2, rfl⟩ := map_some' e
      refine ⟨H0, ρ, ds, S, h1, fun J H1 H01 g1 hJ D hD => ?_⟩
      have hD0 : H D = none := Same.free g1.s hD
      have hD1 : H01 D = none := Same.free g1.sub hD
      have hDi : Z.i D = none := Same.free S.hs.i hD0
      have ap : ∀ i d q, i ∈ own → (wipeD ρ vs)[i]? = some (some d) → (wipe σ vs)[i]? = some (some (V.ref q)) → q ≠ D := fun i d q hi e3 e4 => by
        obtain ⟨h, e3⟩ := wipeD_get ρ vs i d e3
        rw [wipe_get, if_neg h] at e4
        obtain ⟨q', e5, _, _, o⟩ := S.ownd i d e3 hi
        rw [e4] at e5
        cases e5
        rintro rfl
        exact o.some hD0
      have gr1 : Grow H0 H H01 (upd H1 D (.lst [])) := ⟨g1.s0, g1.s.trans fun b u e => by rw [upd_ne (ne_of_none e hD)]; exact e, fun b u e => by rw [upd_ne (ne_of_none e hD1)]; exact g1.sub b u e, g1.new⟩
      refine ⟨fun i k H2 => k = ds.length - i ∧ i ≤ ds.length ∧ ∃ H02 acc as rest, SR K Z own (wipe σ vs) H02 H2 (wipeD ρ vs) ∧ Same H01 H02 ∧ H02 D = none ∧ H2 D = some (.lst acc) ∧ RepL K H02 acc as ∧ as.length ≤ i ∧ compD g p f (wipeD ρ vs) (ds.drop i) = some rest ∧ as ++ rest = xs ∧ Grow H0 H H02 H2,
        ⟨_, rfl, Nat.zero_le _, H01, [], [], xs, (((S.grow g1).wipe vs).side hD1 hDi ap), Same.refl _, hD1, upd_same, .nil, Nat.zero_le _, by rw [List.drop_zero]; exact e2, rfl, gr1⟩, ?_⟩
      rintro i k H2 ⟨rfl, hi, H02, acc, as, rest, S2, s2, n2, a2, r2, l2, c2, x2, g2⟩
      by_cases hl : i < ds.length
      · right
        obtain ⟨j1, _, j3⟩ := hJ i H2 H02 s2 S2.hs.s
        have hd : ds[i]? = some ds[i] := List.getElem?_eq_getElem hl
        rw [List.drop_eq_getElem_cons hl] at c2
        unfold compD at c2
        refine ⟨j1 _ hd, fun H' => ∃ H03 acc as rest, SR K Z own (wipe σ vs) H03 H' (wipeD ρ vs) ∧ Same H01 H03 ∧ H03 D = none ∧ H' D = some (.lst acc) ∧ RepL K H03 acc as ∧ as.length ≤ i + 1 ∧ compD g p f (wipeD ρ vs) (ds.drop (i + 1)) = some rest ∧ as ++ rest = xs ∧ Grow H0 H H03 H',
          fun H' ⟨H03, acc, as, rest, w⟩ => ⟨ds.length - (i + 1), by omega, rfl, hl, H03, acc, as, rest, w⟩, fun x H3 hy => ?_⟩
        obtain ⟨H03, g3, r3⟩ := j3 _ x H3 hd hy
        have S3 := S2.grow g3
        have sD : ∀ {H0' H' : Hp}, Grow H02 H2 H0' H' → H0' D = none ∧ H' D = some (.lst acc) := fun {H0' H'} gg => ⟨gg.new D (by rw [a2]; exact fun z => nomatch z) n2, gg.s D _ a2⟩
        cases h2 : g ds[i] (wipeD ρ vs) with
        | none => rw [h2] at c2; cases c2
        | some ρ1 =>
          rw [h2] at c2
          refine ⟨H03, wipeD ρ vs, ds[i], ρ1, S3, r3, h2, fun σ4 S4 A4 => ⟨wipe_agree A4 hss, ?_⟩⟩
          cases h3 : p ρ1 with
          | none => simp only [h3] at c2; cases c2
          | some b =>
            simp only [h3] at c2
            refine tB'.one S4 h3 fun H5 H05 S5 g5 => ?_
            cases b with
            | false =>
              rw [if_neg Bool.false_ne_true]
              have gg := g3.trans g5
              exact ⟨H05, acc, as, rest, S2.grow gg, s2.trans gg.s0, (sD gg).1, (sD gg).2, r2.up gg.s0, Nat.le_succ_of_le l2, c2, x2, g2.trans gg⟩
            | true =>
              rw [if_pos rfl]
              cases h4 : f ρ1 with
              | none => simp only [h4] at c2; cases c2
              | some y =>
                simp only [h4] at c2
                obtain ⟨rest', c3, rfl⟩ := map_some' c2
                refine tD.one S5 h4 fun v H6 H06 S6 g6 r6 => ?_
                have gg := (g3.trans g5).trans g6
                refine ⟨acc, (sD gg).2, ?_, H06, acc ++ [v], as ++ [y], rest', (S2.grow gg).side (sD gg).1 hDi ap, s2.trans gg.s0, (sD gg).1, upd_same, (r2.up gg.s0).append (.cons r6 .nil), by rw [List.length_append]; simp only [List.length_cons, List.length_nil]; omega, c3, by rw [← x2]; simp, ?_⟩
                · rw [r2.length, szl]; omega
                · have g7 := g2.trans gg
                  exact ⟨g7.s0, fun b u e => by rw [upd_ne (ne_of_none e hD0)]; exact g7.s b u e, fun b u e => by rw [upd_ne (ne_of_none e (sD gg).1)]; exact g7.sub b u e, g7.new⟩
      · left
        have e : i = ds.length := by omega
        subst e
        rw [List.drop_length] at c2
        cases c2
        rw [List.append_nil] at x2
        subst x2
        obtain ⟨_, j2, _⟩ := hJ ds.length H2 H02 s2 S2.hs.s
        exact ⟨j2 (Nat.le_refl _), q D H2 H02 g2 hD0 n2 ⟨acc, a2, r2⟩⟩
    · cases e
  · cases e
theorem df_lc {X : Cx} {Z : Fm} {own : List Nat} {elt tg iter : Expr} {ifs : List Expr} {scope : Scope} (names : List (Str × Nat)) {pos : Pos} {fs : MA} {ss : List Nat} {g : MG} {p : MB} {f : ME} (hc : X.calm = true) (hN : X.N.Nodup) (hi : DI X Z own tg iter fs) (ok : BlkOk X.N X.env.scope scope names)
    (hg : ∀ (s : Shared) (H : Hp) (C : Addr) (cl : List (Str × Addr)) (fp : List Addr), DG (X.blk s H scope (compEnvC scope cl C X.env) fp) Z own tg ss g) (ht : ∀ (s : Shared) (H : Hp) (C : Addr) (cl : List (Str × Addr)) (fp : List Addr), DTs (X.blk s H scope (compEnvC scope cl C X.env) fp) Z own ifs p)
    (he : ∀ (s : Shared) (H : Hp) (C : Addr) (cl : List (Str × Addr)) (fp : List Addr), DE (X.blk s H scope (compEnvC scope cl C X.env) fp) Z own elt f) (hss : ∀ i ∈ ss, i ∈ names.map (·.2) := by decide) (hs : ∀ x, foldedSetIterable iter X.env x = pure x := by intro _; rfl) :
    DF X Z own (.ListComp elt [⟨tg, iter, ifs, 0⟩] scope pos) (eComp fs g p f (names.map (·.2))) := PE.mono (pe_lc (g := tDG X.K Z own ss g) (tt := tB' X.K Z own p) (te := tD X.K Z own f) hc hN hi ok hg ht he hs) fun σ H Q h => tF.comp hss h
/-- name = [.. for ..] on one line -/
theorem PSet_mono {X : Cx} {st : Stmt} {t t' : TE} {i : Nat} (h : PS X st (tAsg t (gName i))) (j : ∀ σ H Q, t' σ H Q → t σ H Q) : PS X st (tAsg t' (gName i)) := PS.mono h fun D σ H q => j σ H _ q
section
variable {X : Cx} {Z : Fm} {own L : List Nat} {st : Stmt} {i : Nat} {f : ME}
theorem ds_setP (h : PS X st (tAsg (tD X.K Z own f) (gName i))) (hio : i ∉ own := by decide) : DS X Z L own own st (sSet i f) := by
  refine PS.mono h fun Dn σ H ⟨H0, ρ, S, q⟩ => ?_
  unfold sSet at q
  split at q
  · rename_i d h1
    exact tD.one S h1 fun v H1 H01 S1 g1 r1 => q _ _ H01 (S1.put hio r1) g1.s0
  · exact q.elim
theorem ds_ownP (h : PS X st (tAsg (tF X.K Z own f) (gName i))) (hio : i ∉ own := by decide) : DS X Z L own (i :: own) st (sSet i f) := by
  refine PS.mono h fun Dn σ H ⟨H0, ρ, S, q⟩ => ?_
  unfold sSet at q
  split at q
  · rename_i d h1
    exact tF.owned i S h1 hio fun p H' H0' S' g => q _ _ H0' S' g.s0
  · exact q.elim
theorem tD.ofF {K : PySem.W.Frag} {σ : St} {H : Hp} {Q : VK} (h : tD K Z own f σ H Q) : tF K Z own f σ H Q := by
  obtain ⟨H0, ρ, d, S, e, q⟩ := h
  refine ⟨H0, ρ, d, S, e, fun p H' H0' g n n0 o => ?_⟩
  obtain ⟨H1, a, b, r, c⟩ := BW.freeze g.sub n0 o
  exact q _ H' H1 (g.freeze n a b c) r
end
theorem ps_lcF {X : Cx} {Z : Fm} {own : List Nat} {i : Nat} {y : Str} {py : Pos} {elt tg iter : Expr} {ifs : List Expr} {scope : Scope} (names : List (Str × Nat)) {pos spos : Pos} {fs : MA} {ss : List Nat} {g : MG} {p : MB} {f : ME} (hc : X.calm = true) (hN : X.N.Nodup) (hi : DI X Z own tg iter fs) (ok : BlkOk X.N X.env.scope scope names)
    (hg : ∀ (s : Shared) (H : Hp) (C : Addr) (cl : List (Str × Addr)) (fp : List Addr), DG (X.blk s H scope (compEnvC scope cl C X.env) fp) Z own tg ss g) (ht : ∀ (s : Shared) (H : Hp) (C : Addr) (cl : List (Str × Addr)) (fp : List Addr), DTs (X.blk s H scope (compEnvC scope cl C X.env) fp) Z own ifs p)
    (he : ∀ (s : Shared) (H : Hp) (C : Addr) (cl : List (Str × Addr)) (fp : List Addr), DE (X.blk s H scope (compEnvC scope cl C X.env) fp) Z own elt f) (hsw : swapsWith (.ListComp elt [⟨tg, iter, ifs, 0⟩] scope pos) (some (.Name y py)) spos.line X.env = pure true) (hyl : X.env.scope.names.lookup y = some .local := by rfl) (hy : X.N[i]? = some y := by rfl) (hss : ∀ i ∈ ss, i ∈ names.map (·.2) := by decide) (hs : ∀ x, foldedSetIterable iter X.env x = pure x := by intro _; rfl) :
    PS X (.Assign [.Name y py] (.ListComp elt [⟨tg, iter, ifs, 0⟩] scope pos) spos) (tAsg (tF X.K Z own (eComp fs g p f (names.map (·.2)))) (gName i)) :=
  PSet_mono (ps_setLc (g := tDG X.K Z own ss g) (tt := tB' X.K Z own p) (te := tD X.K Z own f) hc hN hy hyl hsw hi ok hg ht he hs) fun σ H Q h => tF.comp hss h
end BW

set_option maxRecDepth 100000
namespace BW
open PySem PySem.Spec L2

/-! ### working out what the mirrors make -/
theorem atI_mem {ds : List D} {i : Int} (h0 : 0 ≤ i) (h : i < ds.length) : ∃ d ∈ ds, atI ds i = some d := by
  have hk : i.toNat < ds.length := by omega
  have e : i = ((i.toNat : Nat) : Int) := by omega
  refine ⟨ds[i.toNat], List.getElem_mem hk, ?_⟩
  have q := atI_nat (xs := ds) (j := i.toNat) (v := ds[i.toNat]) (List.getElem?_eq_getElem hk)
  rw [← e] at q
  exact q
theorem atI_get' {ds : List D} {i : Int} {d : D} (h0 : 0 ≤ i) (h : ds[i.toNat]? = some d) : atI ds i = some d := by
  have e : i = ((i.toNat : Nat) : Int) := by omega
  have q := atI_nat (xs := ds) (j := i.toNat) h
  rw [← e] at q
  exact q
theorem atI0 {a : D} {l : List D} : atI (a :: l) 0 = some a := atI_get' (by omega) rfl
theorem atI1 {a b : D} {l : List D} : atI (a :: b :: l) 1 = some b := atI_get' (by omega) rfl
theorem atI2 {a b c : D} {l : List D} : atI (a :: b :: c :: l) 2 = some c := atI_get' (by omega) rfl
theorem atI3 {a b c d : D} {l : List D} : atI (a :: b :: c :: d :: l) 3 = some d := atI_get' (by omega) rfl
theorem atI4 {a b c d e : D} {l : List D} : atI (a :: b :: c :: d :: e :: l) 4 = some e := atI_get' (by omega) rfl
/-- x in a list of ints at a place within -/
theorem atI_int {xs : List Int} {i : Int} (h0 : 0 ≤ i) (h : i < xs.length) : ∃ x ∈ xs, atI (xs.map D.int) i = some (.int x) := by
  obtain ⟨d, hd, e⟩ := atI_mem (ds := xs.map D.int) h0 (by rw [List.length_map]; exact h)
  obtain ⟨x, hx, rfl⟩ := List.mem_map.mp hd
  exact ⟨x, hx, e⟩
theorem cut_from1 (a : D) (l : List D) : cutD (a :: l) (some 1) none = l := by
  unfold cutD
  rw [HT.sIx_none]
  have : HT.sIx (a :: l).length 0 (some 1) = min 1 (a :: l).length := HT.sIx_nat _ _ 1
  rw [this]
  have h : min 1 (a :: l).length = 1 := by rw [List.length_cons]; omega
  rw [h]
  show l.take ((a :: l).length - 1) = l
  rw [List.length_cons, Nat.add_sub_cancel]
  exact List.take_length
theorem rng_succ (lo : Int) (n : Nat) : rng lo (n + 1) = D.int lo :: rng (lo + 1) n := by
  unfold rng
  rw [List.range_succ_eq_map, List.map_cons, List.map_map]
  congr 1
  · simp
  · refine List.map_congr_left fun k _ => ?_
    show D.int (lo + ((k + 1 : Nat) : Int)) = D.int (lo + 1 + (k : Int))
    congr 1
    omega
theorem rng_zero (lo : Int) : rng lo 0 = [] := rfl
theorem mulOk_of {z : Int} (h1 : -1000000000000 ≤ z) (h2 : z ≤ 1000000000000) : mulOk z = true := by
  unfold mulOk
  rw [Bool.and_eq_true]
  exact ⟨decide_eq_true (by omega), decide_eq_true (by omega)⟩
theorem small_of {z : Int} (h1 : -1000000000000 ≤ z) (h2 : z ≤ 1000000000000) : small z = true := by
  unfold small
  rw [Bool.and_eq_true]
  exact ⟨decide_eq_true (by omega), decide_eq_true (by omega)⟩
theorem eqv_int2 (a b c d : Int) : eqvD (.tup [.int a, .int b]) (.tup [.int c, .int d]) = some (a == c && b == d) := by
  unfold eqvD
  simp [toP, toPs, SeqAt.shaped, PyData.canLay0, PyData.canLayAll0, PyData.depth, PyData.depthAll, PyData.eqv, PyData.eqvAll]
theorem eqv_int (a b : Int) : eqvD (.int a) (.int b) = some (a == b) := by
  unfold eqvD
  simp [toP, SeqAt.shaped, PyData.canLay0, PyData.depth, PyData.eqv]
theorem eqv_bl (a b : Bool) : eqvD (.bl a) (.bl b) = some (a == b) := by
  unfold eqvD
  simp [toP, SeqAt.shaped, PyData.canLay0, PyData.depth, PyData.eqv]
/-! the steps, as equations -/
def seqR : Res → MS → Res
  | .nx ρ, n => n ρ
  | .rt d, _ => .rt d
  | .bk ρ, _ => .bk ρ
  | .ct ρ, _ => .ct ρ
  | .no, _ => .no
def setR (i : Nat) : Option D → Env' → Res
  | some d, ρ => .nx (ρ.set i (some d))
  | none, _ => .no
def retR : Option D → Res
  | some d => .rt d
  | none => .no
def ifR : Option Bool → MS → MS → Env' → Res
  | some true, m, _, ρ => m ρ
  | some false, _, n, ρ => n ρ
  | none, _, _, _ => .no
def outR : Res → Option D
  | .rt d => some d
  | .nx _ => some .non
  | _ => none
def bin2 (g : G2) : Option D → Option D → Option D
  | some d, some e => g d e
  | _, _ => none
def aR : Option D → Option (List D) → Option (List D)
  | some d, some ds => some (d :: ds)
  | _, _ => none
def chB : Option D → Option D → Option D
  | some (.bl true), r => r
  | some (.bl false), _ => some (.bl false)
  | _, _ => none
def chR (g g' : G2) : Option D → Option D → Option D → Option D
  | some d, some e, some x => chB (g d e) (g' e x)
  | some d, some e, none => chB (g d e) none
  | _, _, _ => none
def andR : Option D → Option D → Option D
  | some (.bl true), r => r
  | some (.bl false), _ => some (.bl false)
  | _, _ => none
def orR : Option D → Option D → Option D
  | some (.bl true), _ => some (.bl true)
  | some (.bl false), r => r
  | _, _ => none
def notR : Option D → Option D
  | some (.bl b) => some (.bl (!b))
  | _ => none
def negR : Option D → Option D
  | some (.int i) => some (.int (-i))
  | _ => none
def bR : Option D → Option Bool
  | some (.bl b) => some b
  | _ => none
def bAndR : Option Bool → Option Bool → Option Bool
  | some true, r => r
  | some false, _ => some false
  | none, _ => none
def bOrR : Option Bool → Option Bool → Option Bool
  | some true, _ => some true
  | some false, r => r
  | none, _ => none
def eIfR : Option Bool → ME → ME → Env' → Option D
  | some true, m, _, ρ => m ρ
  | some false, _, n, ρ => n ρ
  | none, _, _, _ => none
def slR : Option D → Option (Option Int) → Option (Option Int) → Option D
  | some d, some lo, some hi => gSl d lo hi
  | _, _, _ => none
def oR : Option D → Option (Option Int)
  | some (.int i) => some (some i)
  | _ => none
def isiR (T : Ty) : Option D → Option D
  | some d => (isiD T d).map .bl
  | none => none
def appR (i : Nat) (a b : Option D) (ρ : Env') : Res := match a, b with
  | some (.lst ds), some d => if ds.length < 16777216 then .nx (ρ.set i (some (.lst (ds ++ [d])))) else .no
  | _, _ => .no
def lputR (i : Nat) (a b c : Option D) (ρ : Env') : Res := match a, b, c with
  | some (.lst ds), some (.int k), some d => (match ixN ds.length k with
    | some j => .nx (ρ.set i (some (.lst (ds.set j d))))
    | none => .no)
  | _, _, _ => .no
def forR0 : Option (List D) → MG → MS → Env' → Res
  | some ds, g, m, ρ => forD g m ds ρ
  | none, _, _, _ => .no
def forR1 (g : MG) (m : MS) (ds : List D) : Res → Res
  | .nx ρ => forD g m ds ρ
  | .ct ρ => forD g m ds ρ
  | .bk ρ => .nx ρ
  | .rt d => .rt d
  | .no => .no
def forR2 (g : MG) (m : MS) (ds : List D) : Option Env' → Res
  | some ρ => forR1 g m ds (m ρ)
  | none => .no
def iLR : Option D → Option (List D)
  | some (.lst ds) => some ds
  | _ => none
def iTR : Option D → Option (List D)
  | some (.tup ds) => some ds
  | _ => none
def rgR : Option D → Option (List D)
  | some (.int j) => if small j then some (rng 0 j.toNat) else none
  | _ => none
def rgR2 : Option D → Option D → Option (List D)
  | some (.int i), some (.int j) => if small i && small j then some (rng i (j - i).toNat) else none
  | _, _ => none
def asgR : Option D → MG → Env' → Res
  | some d, g, ρ => (match g d ρ with
    | some ρ' => .nx ρ'
    | none => .no)
  | none, _, _ => .no
section
variable {m n : MS} {ρ ρ' : Env'} {i k : Nat} {f f' f'' : ME} {p p' : MB} {d e x : D} {ds es : List D} {g g' : G2} {fs : MA} {mf : MF} {tg : MG} {a b : Int} {l h : Env' → Option (Option Int)} {u v : Bool}
theorem q_seq : sSeq m n ρ = seqR (m ρ) n := by unfold sSeq; cases m ρ <;> rfl
theorem q_seq_nx : seqR (.nx ρ) n = n ρ := rfl
theorem q_seq_rt : seqR (.rt d) n = .rt d := rfl
theorem q_seq_bk : seqR (.bk ρ) n = .bk ρ := rfl
theorem q_seq_ct : seqR (.ct ρ) n = .ct ρ := rfl
theorem q_set : sSet i f ρ = setR i (f ρ) ρ := by unfold sSet; cases f ρ <;> rfl
theorem q_set_s : setR i (some d) ρ = .nx (ρ.set i (some d)) := rfl
theorem q_ret : sRet f ρ = retR (f ρ) := by unfold sRet; cases f ρ <;> rfl
theorem q_ret_s : retR (some d) = .rt d := rfl
theorem q_if : sIf p m n ρ = ifR (p ρ) m n ρ := by
  unfold sIf
  cases p ρ with
  | none => rfl
  | some b => cases b <;> rfl
theorem q_if_t : ifR (some true) m n ρ = m ρ := rfl
theorem q_if_f : ifR (some false) m n ρ = n ρ := rfl
theorem q_run : runD k m ds = outR (m (start' k ds)) := by unfold runD; cases m (start' k ds) <;> rfl
theorem q_out_rt : outR (.rt d) = some d := rfl
theorem q_out_nx : outR (.nx ρ) = some .non := rfl
theorem q_bin : eBin g f f' ρ = bin2 g (f ρ) (f' ρ) := by unfold eBin; cases f ρ <;> cases f' ρ <;> rfl
theorem q_bin_s : bin2 g (some d) (some e) = g d e := rfl
theorem q_a : aCons f fs ρ = aR (f ρ) (fs ρ) := by unfold aCons; cases f ρ <;> cases fs ρ <;> rfl
theorem q_a_s : aR (some d) (some ds) = some (d :: ds) := rfl
theorem q_ch : eChain g g' f f' f'' ρ = chR g g' (f ρ) (f' ρ) (f'' ρ) := by
  unfold eChain
  cases f ρ with
  | none => rfl
  | some d =>
    cases f' ρ with
    | none => rfl
    | some e =>
      cases f'' ρ with
      | none =>
        show (match g d e with | some (D.bl true) => none | some (D.bl false) => some (D.bl false) | _ => none) = chB (g d e) none
        cases g d e with
        | none => rfl
        | some x => cases x with
          | bl b => cases b <;> rfl
          | _ => rfl
      | some y =>
        show (match g d e with | some (D.bl true) => g' e y | some (D.bl false) => some (D.bl false) | _ => none) = chB (g d e) (g' e y)
        cases g d e with
        | none => cases g' e y <;> rfl
        | some x => cases x with
          | bl b => cases b <;> cases g' e y <;> rfl
          | _ => cases g' e y <;> rfl
theorem q_ch_s : chR g g' (some d) (some e) (some x) = chB (g d e) (g' e x) := rfl
theorem q_ch_b : chB (some (.bl u)) (some (.bl v)) = some (.bl (u && v)) := by cases u <;> rfl
theorem q_ch_f {r : Option D} : chB (some (.bl false)) r = some (.bl false) := rfl
theorem q_and : eAnd f f' ρ = andR (f ρ) (f' ρ) := by
  unfold eAnd
  cases f ρ with
  | none => cases f' ρ <;> rfl
  | some d => cases d with
    | bl b => cases b <;> cases f' ρ <;> rfl
    | _ => cases f' ρ <;> rfl
theorem q_and_b : andR (some (.bl u)) (some (.bl v)) = some (.bl (u && v)) := by cases u <;> rfl
theorem q_and_f {r : Option D} : andR (some (.bl false)) r = some (.bl false) := rfl
theorem q_and_t {r : Option D} : andR (some (.bl true)) r = r := rfl
theorem q_or : eOr f f' ρ = orR (f ρ) (f' ρ) := by
  unfold eOr
  cases f ρ with
  | none => cases f' ρ <;> rfl
  | some d => cases d with
    | bl b => cases b <;> cases f' ρ <;> rfl
    | _ => cases f' ρ <;> rfl
theorem q_or_b : orR (some (.bl u)) (some (.bl v)) = some (.bl (u || v)) := by cases u <;> rfl
theorem q_or_f {r : Option D} : orR (some (.bl false)) r = r := rfl
theorem q_or_t {r : Option D} : orR (some (.bl true)) r = some (.bl true) := rfl
theorem q_not : eNot f ρ = notR (f ρ) := by unfold eNot notR; rfl
theorem q_not_b : notR (some (.bl u)) = some (.bl (!u)) := rfl
theorem q_neg : eNeg f ρ = negR (f ρ) := by unfold eNeg negR; rfl
theorem q_neg_i : negR (some (.int a)) = some (.int (-a)) := rfl
theorem q_bOf : bOf f ρ = bR (f ρ) := by unfold bOf bR; rfl
theorem q_bOf_b : bR (some (.bl u)) = some u := rfl
theorem q_bAnd : bAnd p p' ρ = bAndR (p ρ) (p' ρ) := by
  unfold bAnd
  cases p ρ with
  | none => cases p' ρ <;> rfl
  | some b => cases b <;> cases p' ρ <;> rfl
theorem q_bAnd_b : bAndR (some u) (some v) = some (u && v) := by cases u <;> rfl
theorem q_bAnd_f {r : Option Bool} : bAndR (some false) r = some false := rfl
theorem q_bAnd_t {r : Option Bool} : bAndR (some true) r = r := rfl
theorem q_bOr : bOr p p' ρ = bOrR (p ρ) (p' ρ) := by
  unfold bOr
  cases p ρ with
  | none => cases p' ρ <;> rfl
  | some b => cases b <;> cases p' ρ <;> rfl
theorem q_bOr_b : bOrR (some u) (some v) = some (u || v) := by cases u <;> rfl
theorem q_bOr_f {r : Option Bool} : bOrR (some false) r = r := rfl
theorem q_bOr_t {r : Option Bool} : bOrR (some true) r = some true := rfl
theorem q_bNot : bNot p ρ = (p ρ).map (!·) := rfl
theorem q_eIf : eIf p f f' ρ = eIfR (p ρ) f f' ρ := by
  unfold eIf
  cases p ρ with
  | none => rfl
  | some b => cases b <;> rfl
theorem q_eIf_t : eIfR (some true) f f' ρ = f ρ := rfl
theorem q_eIf_f : eIfR (some false) f f' ρ = f' ρ := rfl
theorem q_sl : eSl f l h ρ = slR (f ρ) (l ρ) (h ρ) := by unfold eSl slR; rfl
theorem q_sl_l {lo hi : Option Int} : slR (some (.lst ds)) (some lo) (some hi) = some (.lst (cutD ds lo hi)) := rfl
theorem q_sl_t {lo hi : Option Int} (c : (cutD ds lo hi).length < ds.length) : slR (some (.tup ds)) (some lo) (some hi) = some (.tup (cutD ds lo hi)) := if_pos c
theorem q_o : oSome f ρ = oR (f ρ) := by unfold oSome oR; rfl
theorem q_o_i : oR (some (.int a)) = some (some a) := rfl
theorem q_oN : oNone ρ = some none := rfl
theorem q_isi {T : Ty} : eIsi T f ρ = isiR T (f ρ) := by unfold eIsi isiR; rfl
theorem q_isi_s {T : Ty} : isiR T (some d) = (isiD T d).map .bl := rfl
theorem q_app : sApp i f ρ = appR i (ρ[i]?).join (f ρ) ρ := by unfold sApp appR; rfl
theorem q_app_s (c : ds.length < 16777216) : appR i (some (.lst ds)) (some d) ρ = .nx (ρ.set i (some (.lst (ds ++ [d])))) := if_pos c
theorem q_lput {fk : ME} : sLPut i fk f ρ = lputR i (ρ[i]?).join (fk ρ) (f ρ) ρ := by unfold sLPut lputR; rfl
theorem q_for : sFor fs tg m ρ = forR0 (fs ρ) tg m ρ := by unfold sFor; cases fs ρ <;> rfl
theorem q_for_s : forR0 (some ds) tg m ρ = forD tg m ds ρ := rfl
theorem q_forD : forD tg m (d :: ds) ρ = forR2 tg m ds (tg d ρ) := by
  conv => lhs; unfold forD
  cases h1 : tg d ρ with
  | none => rfl
  | some ρ1 =>
    show (match m ρ1 with
      | .nx ρ2 => forD tg m ds ρ2
      | .ct ρ2 => forD tg m ds ρ2
      | .bk ρ2 => .nx ρ2
      | .rt d => .rt d
      | .no => .no) = forR1 tg m ds (m ρ1)
    cases m ρ1 <;> rfl
theorem q_forD_nil : forD tg m [] ρ = .nx ρ := rfl
theorem q_for2 : forR2 tg m ds (some ρ) = forR1 tg m ds (m ρ) := rfl
theorem q_for1_nx : forR1 tg m ds (.nx ρ) = forD tg m ds ρ := rfl
theorem q_for1_ct : forR1 tg m ds (.ct ρ) = forD tg m ds ρ := rfl
theorem q_for1_bk : forR1 tg m ds (.bk ρ) = .nx ρ := rfl
theorem q_for1_rt : forR1 tg m ds (.rt d) = .rt d := rfl
theorem q_iL : iLst f ρ = iLR (f ρ) := by unfold iLst iLR; rfl
theorem q_iL_s : iLR (some (.lst ds)) = some ds := rfl
theorem q_iT : iTupD f ρ = iTR (f ρ) := by unfold iTupD iTR; rfl
theorem q_iT_s : iTR (some (.tup ds)) = some ds := rfl
theorem q_rg : iRange1 f ρ = rgR (f ρ) := by unfold iRange1 rgR; rfl
theorem q_rg_s (c : small a = true) : rgR (some (.int a)) = some (rng 0 a.toNat) := if_pos c
theorem q_rg2 : iRange2 f f' ρ = rgR2 (f ρ) (f' ρ) := by unfold iRange2 rgR2; rfl
theorem q_rg2_s (c : small a = true) (c' : small b = true) : rgR2 (some (.int a)) (some (.int b)) = some (rng a (b - a).toNat) := if_pos (by rw [c, c']; rfl)
theorem q_asg : sAsg f tg ρ = asgR (f ρ) tg ρ := by unfold sAsg; cases f ρ <;> rfl
theorem q_asg_s (c : tg d ρ = some ρ') : asgR (some d) tg ρ = .nx ρ' := by
  show (match tg d ρ with | some ρ' => Res.nx ρ' | none => Res.no) = _
  rw [c]
theorem q_sDrop : sDrop f ρ = (match f ρ with | some _ => Res.nx ρ | none => Res.no) := rfl
theorem q_addI : gAdd (.int a) (.int b) = some (.int (a + b)) := rfl
theorem q_addL (c : ds.length + es.length ≤ 16777216) : gAdd (.lst ds) (.lst es) = some (.lst (ds ++ es)) := if_pos c
theorem q_sub : gMinus (.int a) (.int b) = some (.int (a - b)) := rfl
theorem q_mul (c : (mulOk a || mulOk b) = true) : gMulI (.int a) (.int b) = some (.int (a * b)) := by
  show (if (mulOk a || mulOk b) = true then some (a * b) else none).map D.int = _
  rw [if_pos c]; rfl
theorem q_div (c : 0 < b) (c' : b < 1073741824) : gDiv (.int a) (.int b) = some (.int (a / b)) := by
  show (if 0 < b ∧ b < 1073741824 then some (a / b) else none).map D.int = _
  rw [if_pos ⟨c, c'⟩]; rfl
theorem q_mod (c : 0 < b) : gMod (.int a) (.int b) = some (.int (a % b)) := by
  show (if 0 < b then some (a % b) else none).map D.int = _
  rw [if_pos c]; rfl
theorem q_gB {q : Int → Int → Bool} : gB q (.int a) (.int b) = some (.bl (q a b)) := rfl
theorem q_is : gIs d .non = some (.bl (dIsNon d)) := rfl
theorem q_isNot : gIsNot d .non = some (.bl (!dIsNon d)) := rfl
theorem q_ixL : gIx (.lst ds) (.int a) = atI ds a := rfl
theorem q_ixT : gIx (.tup ds) (.int a) = atI ds a := rfl
theorem q_lenL : gLen [.lst ds] = some (.int ds.length) := rfl
theorem q_lenT : gLen [.tup ds] = some (.int ds.length) := rfl
theorem q_intI : gInt [.int a] = some (.int a) := rfl
theorem q_intB : gInt [.bl u] = some (.int (if u then 1 else 0)) := rfl
theorem q_max : gMax [.int a, .int b] = some (.int (if a < b then b else a)) := rfl
theorem q_min : gMin [.int a, .int b] = some (.int (if b < a then b else a)) := rfl
theorem q_eq : gEq d e = (eqvD d e).map .bl := rfl
theorem q_ne : gNe d e = (eqvD d e).map fun b => .bl (!b) := rfl
theorem q_call : eCall mf fs ρ = (fs ρ).bind mf := rfl
theorem q_tup : eTup fs ρ = (fs ρ).map .tup := rfl
theorem q_lst : eLst fs ρ = (fs ρ).map .lst := rfl
theorem q_nil : aNil ρ = some [] := rfl
theorem q_c : eC d ρ = some d := rfl
theorem q_var : eVar i ρ = (ρ[i]?).join := rfl
theorem q_next : sNext ρ = .nx ρ := rfl
theorem q_brk : sBreak ρ = .bk ρ := rfl
theorem q_cnt : sCont ρ = .ct ρ := rfl
theorem q_put : gPut i d ρ = some (ρ.set i (some d)) := rfl
theorem q_gsN : gsNil [] ρ = some ρ := rfl
theorem q_gsC {gs : MGs} : gsCons tg gs (d :: ds) ρ = (tg d ρ).bind fun ρ' => gs ds ρ' := rfl
theorem q_gT {gs : MGs} (c : ds.length = k) : gTupD k gs (.tup ds) ρ = gs ds ρ := if_pos c
end
end BW

set_option maxRecDepth 100000
namespace BW
open PySem PySem.Spec L2

/-! ### comprehensions with two fors -/
def compD2 (g : MG) (p : MB) (fs1 : MA) (g1 : MG) (p1 : MB) (f : ME) (vs1 : List Nat) (ρ : Env') : List D → Option (List D)
  | [] => some []
  | d :: ds => match g d ρ with
    | none => none
    | some ρ1 => (match p ρ1 with
      | none => none
      | some false => compD2 g p fs1 g1 p1 f vs1 ρ ds
      | some true => (match fs1 ρ1 with
        | none => none
        | some es => (match compD g1 p1 f (wipeD ρ1 vs1) es with
          | none => none
          | some xs => (compD2 g p fs1 g1 p1 f vs1 ρ ds).map fun ys => xs ++ ys)))
def eComp2 (fs : MA) (g : MG) (p : MB) (vs : List Nat) (fs1 : MA) (g1 : MG) (p1 : MB) (vs1 : List Nat) (f : ME) : ME := fun ρ => match fs ρ with
  | some ds => (match compD2 g p fs1 g1 p1 f vs1 (wipeD ρ vs) ds with
    | some xs => if xs.length ≤ 16777216 then some (.lst xs) else none
    | none => none)
  | none => none
section
variable {K : PySem.W.Frag} {Z : Fm} {own : List Nat} {σ : St} {H0 H : Hp} {ρ : Env'}
/-- the new list is on the side -/
theorem SR.apart_new (S : SR K Z own σ H0 H ρ) {D : Addr} (hD : H D = none) : ∀ (i : Nat) (d : BW.D) (q : Addr), i ∈ own → ρ[i]? = some (some d) → σ[i]? = some (some (V.ref q)) → q ≠ D := fun i d q hi e3 e4 => by
  obtain ⟨q', e5, _, _, o⟩ := S.ownd i d e3 hi
  rw [e4] at e5
  cases e5
  rintro rfl
  exact o.some hD
end
theorem tF.comp2 {K : PySem.W.Frag} {Z : Fm} {fs fs1 : MA} {ss vs ss1 vs1 : List Nat} {g g1 : MG} {p p1 : MB} {f : ME} {σ : St} {H : Hp} {Q : VK} (hss : ∀ i ∈ ss, i ∈ vs) (hss1 : ∀ i ∈ ss1, i ∈ vs1) (h : tF K Z [] (eComp2 fs g p vs fs1 g1 p1 vs1 f) σ H Q) :
    tLc2 (tDI K Z [] fs) (tDG K Z [] ss g) (tB' K Z [] p) (tDI K Z [] fs1) (tDG K Z [] ss1 g1) (tB' K Z [] p1) (tD K Z [] f) vs vs1 σ H Q := by
  obtain ⟨H0, ρ, d, S, e, q⟩ := h
  unfold eComp2 at e
  split at e
  · rename_i ds h1
    split at e
    · rename_i xs e2
      split at e
      · rename_i hsz
        cases e
        refine ⟨H0, ρ, ds, S, h1, fun J H1 H01 g1' hJ D hD => ?_⟩
        have hD0 : H D = none := Same.free g1'.s hD
        have hD1 : H01 D = none := Same.free g1'.sub hD
        have hDi : Z.i D = none := Same.free S.hs.i hD0
        have ap := (S.wipe vs).apart_new hD0
        have gr1 : Grow H0 H H01 (upd H1 D (.lst [])) := ⟨g1'.s0, g1'.s.trans fun b u e => by rw [upd_ne (ne_of_none e hD)]; exact e, fun b u e => by rw [upd_ne (ne_of_none e hD1)]; exact g1'.sub b u e, g1'.new⟩
        -- the invariant of the outer loop
        refine ⟨fun i k H2 => k = ds.length - i ∧ i ≤ ds.length ∧ ∃ H02 acc as rest, SR K Z [] (wipe σ vs) H02 H2 (wipeD ρ vs) ∧ Same H01 H02 ∧ H02 D = none ∧ H2 D = some (.lst acc) ∧ RepL K H02 acc as ∧ compD2 g p fs1 g1 p1 f vs1 (wipeD ρ vs) (ds.drop i) = some rest ∧ as ++ rest = xs ∧ Grow H0 H H02 H2,
          ⟨_, rfl, Nat.zero_le _, H01, [], [], xs, (((S.grow g1').wipe vs).side hD1 hDi ap), Same.refl _, hD1, upd_same, .nil, by rw [List.drop_zero]; exact e2, rfl, gr1⟩, ?_⟩
        rintro i k H2 ⟨rfl, hi, H02, acc, as, rest, S2, s2, n2, a2, r2, c2, x2, g2⟩
        by_cases hl : i < ds.length
        · right
          obtain ⟨j1, _, j3⟩ := hJ i H2 H02 s2 S2.hs.s
          have hd : ds[i]? = some ds[i] := List.getElem?_eq_getElem hl
          rw [List.drop_eq_getElem_cons hl] at c2
          unfold compD2 at c2
          refine ⟨j1 _ hd, fun H' => ∃ H03 acc as rest, SR K Z [] (wipe σ vs) H03 H' (wipeD ρ vs) ∧ Same H01 H03 ∧ H03 D = none ∧ H' D = some (.lst acc) ∧ RepL K H03 acc as ∧ compD2 g p fs1 g1 p1 f vs1 (wipeD ρ vs) (ds.drop (i + 1)) = some rest ∧ as ++ rest = xs ∧ Grow H0 H H03 H',
            fun H' ⟨H03, acc, as, rest, w⟩ => ⟨ds.length - (i + 1), by omega, rfl, hl, H03, acc, as, rest, w⟩, fun x H3 hy => ?_⟩
          obtain ⟨H03, g3, r3⟩ := j3 _ x H3 hd hy
          have S3 := S2.grow g3
          have sD : ∀ {H0' H' : Hp}, Grow H02 H2 H0' H' → H0' D = none ∧ H' D = some (.lst acc) := fun {H0' H'} gg => ⟨gg.new D (by rw [a2]; exact fun z => nomatch z) n2, gg.s D _ a2⟩
          cases h2 : g ds[i] (wipeD ρ vs) with
          | none => rw [h2] at c2; cases c2
          | some ρ1 =>
            rw [h2] at c2
            refine ⟨H03, wipeD ρ vs, ds[i], ρ1, S3, r3, h2, fun σ4 S4 A4 => ⟨wipe_agree A4 hss, ?_⟩⟩
            cases h3 : p ρ1 with
            | none => simp only [h3] at c2; cases c2
            | some b =>
              simp only [h3] at c2
              refine tB'.one S4 h3 fun H5 H05 S5 g5 => ?_
              cases b with
              | false =>
                rw [if_neg Bool.false_ne_true]
                have gg := g3.trans g5
                exact ⟨H05, acc, as, rest, S2.grow gg, s2.trans gg.s0, (sD gg).1, (sD gg).2, r2.up gg.s0, c2, x2, g2.trans gg⟩
              | true =>
                rw [if_pos rfl]
                cases h4 : fs1 ρ1 with
                | none => simp only [h4] at c2; cases c2
                | some es =>
                  simp only [h4] at c2
                  cases h5 : compD g1 p1 f (wipeD ρ1 vs1) es with
                  | none => simp only [h5] at c2; cases c2
                  | some ys =>
                    simp only [h5] at c2
                    obtain ⟨rest', c3, rfl⟩ := map_some' c2
                    refine ⟨H05, ρ1, es, S5, h4, fun J1 H6 H06 g6 hJ1 => ?_⟩
                    have gg := (g3.trans g5).trans g6
                    have S6 := S5.grow g6
                    -- the invariant of the inner loop
                    refine ⟨fun j k H7 => k = es.length - j ∧ j ≤ es.length ∧ ∃ H07 acc2 as2 rest2, SR K Z [] (wipe σ4 vs1) H07 H7 (wipeD ρ1 vs1) ∧ SR K Z [] (wipe σ vs) H07 H7 (wipeD ρ vs) ∧ Same H06 H07 ∧ H07 D = none ∧ H7 D = some (.lst acc2) ∧ RepL K H07 acc2 as2 ∧ compD g1 p1 f (wipeD ρ1 vs1) (es.drop j) = some rest2 ∧ as2 ++ (rest2 ++ rest') = xs ∧ Grow H0 H H07 H7,
                      ⟨_, rfl, Nat.zero_le _, H06, acc, as, ys, S6.wipe vs1, S2.grow gg, Same.refl _, (sD gg).1, (sD gg).2, r2.up gg.s0, by rw [List.drop_zero]; exact h5, x2, g2.trans gg⟩, ?_⟩
                    rintro j k H7 ⟨rfl, hj, H07, acc2, as2, rest2, S7, S7', s7, n7, a7, r7, c7, x7, g7⟩
                    by_cases hlj : j < es.length
                    · right
                      obtain ⟨k1, _, k3⟩ := hJ1 j H7 H07 s7 S7.hs.s
                      have hde : es[j]? = some es[j] := List.getElem?_eq_getElem hlj
                      rw [List.drop_eq_getElem_cons hlj] at c7
                      unfold compD at c7
                      refine ⟨k1 _ hde, fun H' => ∃ H08 acc2 as2 rest2, SR K Z [] (wipe σ4 vs1) H08 H' (wipeD ρ1 vs1) ∧ SR K Z [] (wipe σ vs) H08 H' (wipeD ρ vs) ∧ Same H06 H08 ∧ H08 D = none ∧ H' D = some (.lst acc2) ∧ RepL K H08 acc2 as2 ∧ compD g1 p1 f (wipeD ρ1 vs1) (es.drop (j + 1)) = some rest2 ∧ as2 ++ (rest2 ++ rest') = xs ∧ Grow H0 H H08 H',
                        fun H' ⟨H08, w⟩ => ⟨es.length - (j + 1), by omega, rfl, hlj, H08, w⟩, fun y H8 hy => ?_⟩
                      obtain ⟨H08, g8, r8⟩ := k3 _ y H8 hde hy
                      have S8 := S7.grow g8
                      have sE : ∀ {H0' H' : Hp}, Grow H07 H7 H0' H' → H0' D = none ∧ H' D = some (.lst acc2) := fun {H0' H'} gg => ⟨gg.new D (by rw [a7]; exact fun z => nomatch z) n7, gg.s D _ a7⟩
                      cases h6 : g1 es[j] (wipeD ρ1 vs1) with
                      | none => rw [h6] at c7; cases c7
                      | some ρ3 =>
                        rw [h6] at c7
                        refine ⟨H08, wipeD ρ1 vs1, es[j], ρ3, S8, r8, h6, fun σ5 S9 A9 => ⟨wipe_agree A9 hss1, ?_⟩⟩
                        cases h7 : p1 ρ3 with
                        | none => simp only [h7] at c7; cases c7
                        | some b1 =>
                          simp only [h7] at c7
                          refine tB'.one S9 h7 fun H10 H010 S10 g10 => ?_
                          cases b1 with
                          | false =>
                            rw [if_neg Bool.false_ne_true]
                            have g11 := g8.trans g10
                            exact ⟨H010, acc2, as2, rest2, S7.grow g11, S7'.grow g11, s7.trans g11.s0, (sE g11).1, (sE g11).2, r7.up g11.s0, c7, x7, g7.trans g11⟩
                          | true =>
                            rw [if_pos rfl]
                            cases h8 : f ρ3 with
                            | none => simp only [h8] at c7; cases c7
                            | some y' =>
                              simp only [h8] at c7
                              obtain ⟨rest3, c8, rfl⟩ := map_some' c7
                              refine tD.one S10 h8 fun v H11 H011 S11 g11 r11 => ?_
                              have g12 := (g8.trans g10).trans g11
                              have hlen : as2.length < xs.length := by rw [← x7]; simp
                              refine ⟨acc2, (sE g12).2, ?_, H011, acc2 ++ [v], as2 ++ [y'], rest3, (S7.grow g12).side (sE g12).1 hDi (fun i d q hi => by cases hi), (S7'.grow g12).side (sE g12).1 hDi (fun i d q hi => by cases hi), s7.trans g12.s0, (sE g12).1, upd_same, (r7.up g12.s0).append (.cons r11 .nil), c8, by rw [← x7]; simp, ?_⟩
                              · rw [r7.length, szl]; omega
                              · have g13 := g7.trans g12
                                exact ⟨g13.s0, fun b u e => by rw [upd_ne (ne_of_none e hD0)]; exact g13.s b u e, fun b u e => by rw [upd_ne (ne_of_none e (sE g12).1)]; exact g13.sub b u e, g13.new⟩
                    · left
                      have e : j = es.length := by omega
                      subst e
                      rw [List.drop_length] at c7
                      cases c7
                      obtain ⟨_, k2, _⟩ := hJ1 es.length H7 H07 s7 S7.hs.s
                      exact ⟨k2 (Nat.le_refl _), H07, acc2, as2, rest', S7', (s2.trans gg.s0).trans s7, n7, a7, r7, c3, x7, g7⟩
        · left
          have e : i = ds.length := by omega
          subst e
          rw [List.drop_length] at c2
          cases c2
          rw [List.append_nil] at x2
          subst x2
          obtain ⟨_, j2, _⟩ := hJ ds.length H2 H02 s2 S2.hs.s
          exact ⟨j2 (Nat.le_refl _), q D H2 H02 g2 hD0 n2 ⟨acc, a2, r2⟩⟩
      · cases e
    · cases e
  · cases e
theorem df_lc2 {X : Cx} {Z : Fm} {elt tg iter tg1 iter1 : Expr} {ifs ifs1 : List Expr} {scope : Scope} (names : List (Str × Nat)) (vs1 : List Nat) {pos : Pos} {fs fs1 : MA} {ss ss1 : List Nat} {g g1 : MG} {p p1 : MB} {f : ME} (hc : X.calm = true) (hN : X.N.Nodup) (hi : DI X Z [] tg iter fs) (ok : BlkOk X.N X.env.scope scope names)
    (hg : ∀ (s : Shared) (H : Hp) (C : Addr) (cl : List (Str × Addr)) (fp : List Addr), DG (X.blk s H scope (compEnvC scope cl C X.env) fp) Z [] tg ss g) (ht : ∀ (s : Shared) (H : Hp) (C : Addr) (cl : List (Str × Addr)) (fp : List Addr), DTs (X.blk s H scope (compEnvC scope cl C X.env) fp) Z [] ifs p)
    (hi1 : ∀ (s : Shared) (H : Hp) (C : Addr) (cl : List (Str × Addr)) (fp : List Addr), DI (X.blk s H scope (compEnvC scope cl C X.env) fp) Z [] tg1 iter1 fs1)
    (hg1 : ∀ (s : Shared) (H : Hp) (C : Addr) (cl : List (Str × Addr)) (fp : List Addr), DG (X.blk s H scope (compEnvC scope cl C X.env) fp) Z [] tg1 ss1 g1) (ht1 : ∀ (s : Shared) (H : Hp) (C : Addr) (cl : List (Str × Addr)) (fp : List Addr), DTs (X.blk s H scope (compEnvC scope cl C X.env) fp) Z [] ifs1 p1)
    (he : ∀ (s : Shared) (H : Hp) (C : Addr) (cl : List (Str × Addr)) (fp : List Addr), DE (X.blk s H scope (compEnvC scope cl C X.env) fp) Z [] elt f) (hv : ∀ i ∈ vs1, i ∈ names.map (·.2) := by decide) (hss : ∀ i ∈ ss, i ∈ names.map (·.2) := by decide) (hss1 : ∀ i ∈ ss1, i ∈ vs1 := by decide)
    (hs : ∀ x, foldedSetIterable iter X.env x = pure x := by intro _; rfl) (hs1 : ∀ env x, foldedSetIterable iter1 env x = pure x := by intro _ _; rfl) :
    DF X Z [] (.ListComp elt [⟨tg, iter, ifs, 0⟩, ⟨tg1, iter1, ifs1, 0⟩] scope pos) (eComp2 fs g p (names.map (·.2)) fs1 g1 p1 vs1 f) :=
  PE.mono (pe_lc2 (wi1 := tDI X.K Z [] fs1) (g := tDG X.K Z [] ss g) (tt := tB' X.K Z [] p) (g1 := tDG X.K Z [] ss1 g1) (tt1 := tB' X.K Z [] p1) (te := tD X.K Z [] f) hc hN hi ok hv hg ht hi1 hg1 ht1 he hs hs1) fun σ H Q h => tF.comp2 hss hss1 h
theorem ps_lcF2 {X : Cx} {Z : Fm} {i : Nat} {y : Str} {py : Pos} {elt tg iter tg1 iter1 : Expr} {ifs ifs1 : List Expr} {scope : Scope} (names : List (Str × Nat)) (vs1 : List Nat) {pos spos : Pos} {fs fs1 : MA} {ss ss1 : List Nat} {g g1 : MG} {p p1 : MB} {f : ME} (hc : X.calm = true) (hN : X.N.Nodup) (hi : DI X Z [] tg iter fs) (ok : BlkOk X.N X.env.scope scope names)
    (hg : ∀ (s : Shared) (H : Hp) (C : Addr) (cl : List (Str × Addr)) (fp : List Addr), DG (X.blk s H scope (compEnvC scope cl C X.env) fp) Z [] tg ss g) (ht : ∀ (s : Shared) (H : Hp) (C : Addr) (cl : List (Str × Addr)) (fp : List Addr), DTs (X.blk s H scope (compEnvC scope cl C X.env) fp) Z [] ifs p)
    (hi1 : ∀ (s : Shared) (H : Hp) (C : Addr) (cl : List (Str × Addr)) (fp : List Addr), DI (X.blk s H scope (compEnvC scope cl C X.env) fp) Z [] tg1 iter1 fs1)
    (hg1 : ∀ (s : Shared) (H : Hp) (C : Addr) (cl : List (Str × Addr)) (fp : List Addr), DG (X.blk s H scope (compEnvC scope cl C X.env) fp) Z [] tg1 ss1 g1) (ht1 : ∀ (s : Shared) (H : Hp) (C : Addr) (cl : List (Str × Addr)) (fp : List Addr), DTs (X.blk s H scope (compEnvC scope cl C X.env) fp) Z [] ifs1 p1)
    (he : ∀ (s : Shared) (H : Hp) (C : Addr) (cl : List (Str × Addr)) (fp : List Addr), DE (X.blk s H scope (compEnvC scope cl C X.env) fp) Z [] elt f) (hsw : swapsWith (.ListComp elt [⟨tg, iter, ifs, 0⟩, ⟨tg1, iter1, ifs1, 0⟩] scope pos) (some (.Name y py)) spos.line X.env = pure true) (hv : ∀ i ∈ vs1, i ∈ names.map (·.2) := by decide) (hyl : X.env.scope.names.lookup y = some .local := by rfl) (hy : X.N[i]? = some y := by rfl) (hss : ∀ i ∈ ss, i ∈ names.map (·.2) := by decide) (hss1 : ∀ i ∈ ss1, i ∈ vs1 := by decide)
    (hs : ∀ x, foldedSetIterable iter X.env x = pure x := by intro _; rfl) (hs1 : ∀ env x, foldedSetIterable iter1 env x = pure x := by intro _ _; rfl) :
    PS X (.Assign [.Name y py] (.ListComp elt [⟨tg, iter, ifs, 0⟩, ⟨tg1, iter1, ifs1, 0⟩] scope pos) spos) (tAsg (tF X.K Z [] (eComp2 fs g p (names.map (·.2)) fs1 g1 p1 vs1 f)) (gName i)) :=
  PSet_mono (ps_setLc2 (wi1 := tDI X.K Z [] fs1) (g := tDG X.K Z [] ss g) (tt := tB' X.K Z [] p) (g1 := tDG X.K Z [] ss1 g1) (tt1 := tB' X.K Z [] p1) (te := tD X.K Z [] f) hc hN hy hyl hsw hi ok hv hg ht hi1 hg1 ht1 he hs hs1) fun σ H Q h => tF.comp2 hss hss1 h
theorem ds_setF {X : Cx} {Z : Fm} {own L : List Nat} {y : Str} {py spos : Pos} {e : Expr} {i : Nat} {f : ME} (h : PS X (.Assign [.Name y py] e spos) (tAsg (tF X.K Z own f) (gName i))) (hio : i ∉ own := by decide) : DS X Z L own own (.Assign [.Name y py] e spos) (sSet i f) :=
  ds_setP (PSet_mono h fun σ H Q q => tD.ofF q) hio
/-! steps, as equations -/
def asgR2 : Option Env' → Res
  | some ρ => .nx ρ
  | none => .no
theorem q_asg_d {tg : MG} {d : D} {ρ : Env'} : asgR (some d) tg ρ = asgR2 (tg d ρ) := by
  show (match tg d ρ with | some ρ' => Res.nx ρ' | none => Res.no) = _
  cases tg d ρ <;> rfl
theorem q_asg2_s {ρ : Env'} : asgR2 (some ρ) = .nx ρ := rfl
def cmpR2 : Option Bool → Option D → Option (List D) → Option (List D)
  | some true, some x, r => r.map fun xs => x :: xs
  | some true, none, _ => none
  | some false, _, r => r
  | none, _, _ => none
def cmpR (p : MB) (f : ME) (r : Option (List D)) : Option Env' → Option (List D)
  | some ρ => cmpR2 (p ρ) (f ρ) r
  | none => none
def cm2R3 : Option (List D) → Option (List D) → Option (List D)
  | some xs, r => r.map fun ys => xs ++ ys
  | none, _ => none
def cm2R2 (g1 : MG) (p1 : MB) (f : ME) (vs1 : List Nat) (ρ1 : Env') : Option Bool → Option (List D) → Option (List D) → Option (List D)
  | some true, some es, r => cm2R3 (compD g1 p1 f (wipeD ρ1 vs1) es) r
  | some true, none, _ => none
  | some false, _, r => r
  | none, _, _ => none
def cm2R (p : MB) (fs1 : MA) (g1 : MG) (p1 : MB) (f : ME) (vs1 : List Nat) (r : Option (List D)) : Option Env' → Option (List D)
  | some ρ => cm2R2 g1 p1 f vs1 ρ (p ρ) (fs1 ρ) r
  | none => none
def cmpE (g : MG) (p : MB) (f : ME) (ρ : Env') : Option (List D) → Option D
  | some ds => if ds.length ≤ 16777216 then (compD g p f ρ ds).map .lst else none
  | none => none
section
variable {g g1 : MG} {p p1 : MB} {f : ME} {ρ : Env'} {d x : D} {ds xs es : List D} {fs fs1 : MA} {vs vs1 : List Nat} {r : Option (List D)} {o : Option D}
theorem q_cmp : compD g p f ρ (d :: ds) = cmpR p f (compD g p f ρ ds) (g d ρ) := by
  conv => lhs; unfold compD
  cases h : g d ρ with
  | none => rfl
  | some ρ1 =>
    show (match p ρ1 with | none => none | some false => compD g p f ρ ds | some true => (match f ρ1 with | none => none | some x => (compD g p f ρ ds).map fun xs => x :: xs)) = cmpR2 (p ρ1) (f ρ1) (compD g p f ρ ds)
    cases p ρ1 with
    | none => rfl
    | some b => cases b <;> cases f ρ1 <;> rfl
theorem q_cmp_nil : compD g p f ρ [] = some [] := rfl
theorem q_cmp_s : cmpR p f r (some ρ) = cmpR2 (p ρ) (f ρ) r := rfl
theorem q_cmp2_t : cmpR2 (some true) (some x) r = r.map fun xs => x :: xs := rfl
theorem q_cmp2_f : cmpR2 (some false) o r = r := rfl
theorem q_bYes : bYes ρ = some true := rfl
theorem q_wipe_nil : wipeD ρ [] = ρ := rfl
theorem q_wipe {v : Nat} : wipeD ρ (v :: vs) = (wipeD ρ vs).set v none := rfl
theorem q_comp : eComp fs g p f vs ρ = cmpE g p f (wipeD ρ vs) (fs ρ) := by unfold eComp; cases fs ρ <;> rfl
theorem q_comp_s (h : ds.length ≤ 16777216) : cmpE g p f ρ (some ds) = (compD g p f ρ ds).map BW.D.lst := if_pos h
theorem q_gT2 {k : Nat} {gs : MGs} : gTupD k gs (.tup ds) ρ = if ds.length = k then gs ds ρ else none := rfl
theorem q_cm2_nil : compD2 g p fs1 g1 p1 f vs1 ρ [] = some [] := rfl
theorem q_cm2 : compD2 g p fs1 g1 p1 f vs1 ρ (d :: ds) = cm2R p fs1 g1 p1 f vs1 (compD2 g p fs1 g1 p1 f vs1 ρ ds) (g d ρ) := by
  conv => lhs; unfold compD2
  cases h : g d ρ with
  | none => rfl
  | some ρ1 =>
    show (match p ρ1 with | none => none | some false => compD2 g p fs1 g1 p1 f vs1 ρ ds | some true => (match fs1 ρ1 with | none => none | some es => (match compD g1 p1 f (wipeD ρ1 vs1) es with | none => none | some xs => (compD2 g p fs1 g1 p1 f vs1 ρ ds).map fun ys => xs ++ ys))) = cm2R2 g1 p1 f vs1 ρ1 (p ρ1) (fs1 ρ1) (compD2 g p fs1 g1 p1 f vs1 ρ ds)
    cases p ρ1 with
    | none => rfl
    | some b =>
      cases b with
      | false => cases fs1 ρ1 <;> rfl
      | true =>
        cases fs1 ρ1 with
        | none => rfl
        | some es =>
          show (match compD g1 p1 f (wipeD ρ1 vs1) es with | none => none | some xs => (compD2 g p fs1 g1 p1 f vs1 ρ ds).map fun ys => xs ++ ys) = cm2R3 (compD g1 p1 f (wipeD ρ1 vs1) es) (compD2 g p fs1 g1 p1 f vs1 ρ ds)
          cases compD g1 p1 f (wipeD ρ1 vs1) es <;> rfl
theorem q_cm2_s : cm2R p fs1 g1 p1 f vs1 r (some ρ) = cm2R2 g1 p1 f vs1 ρ (p ρ) (fs1 ρ) r := rfl
theorem q_cm22_t : cm2R2 g1 p1 f vs1 ρ (some true) (some es) r = cm2R3 (compD g1 p1 f (wipeD ρ vs1) es) r := rfl
theorem q_cm22_f : cm2R2 g1 p1 f vs1 ρ (some false) r r = r := rfl
theorem q_cm23 : cm2R3 (some xs) r = r.map fun ys => xs ++ ys := rfl
theorem q_comp2 (h1 : fs ρ = some ds) (h2 : compD2 g p fs1 g1 p1 f vs1 (wipeD ρ vs) ds = some xs) (h3 : xs.length ≤ 16777216) : eComp2 fs g p vs fs1 g1 p1 vs1 f ρ = some (.lst xs) := by
  unfold eComp2
  rw [h1]
  show (match compD2 g p fs1 g1 p1 f vs1 (wipeD ρ vs) ds with | some xs => if xs.length ≤ 16777216 then some (BW.D.lst xs) else none | none => none) = _
  rw [h2]
  exact if_pos h3
end
end BW

set_option maxRecDepth 100000
namespace BW
open PySem PySem.Spec L2

/-! ### set(xs) of a list of ints, as the set that sorted walks -/
abbrev freshSet (w : World) : Obj := { cls := .type "set", dict := none, data := .set #[] 0 (.fresh 0 0 (!w.params.followText "set-order")) }
section
variable {P : Program} {w : World} {A : Around} {E : Value → Shared → Prop} {s : Shared}
/-- what the set's __init__ makes of the list at l -/
theorem init_list {B : Around} {l : Addr} {its : Array Value} {zs : List Int} (g : B.in1.handled = none) (hz : PyProof.Rows.IntsAre its.toList zs) (many : zs.length + 1 < scanBound) (hl : s.heap.IsList l its) {R : Result → Shared → Prop}
    (k : ∀ (h' : Heap) (tk c : Nat), SetR w h' s.heap.objs.size (fun j => decide (j ∈ zs)) c → c ≤ zs.length → (∀ b o, s.heap.get? b = some o → h'.get? b = some o) → R (.ok (.ret .none)) { s with heap := h', toks := tk }) :
    codeAny (model P w) B (.builtin "set.update.loop" ⟨[.ref s.heap.objs.size, .ref (s.heap.objs.size + 1)], []⟩) R { s with heap := (s.heap.push (freshSet w)).push { cls := .type "list_iterator", data := .fields #[.ref l, .int 0 0] } } := by
  have z1 : (s.heap.push (freshSet w)).objs.size = s.heap.objs.size + 1 := Heap.size_push _ _
  have lt : l < s.heap.objs.size := Heap.lt_size hl.choose_spec.1
  have sz : its.size = zs.length := by have := PyProof.Rows.IntsAre.length hz; rwa [Array.length_toList] at this
  have set1 : (s.heap.push (freshSet w)).get? s.heap.objs.size = some (freshSet w) := Heap.get?_push_size s.heap rfl
  have set2 := Heap.get?_push_of_some { cls := .type "list_iterator", data := .fields #[.ref l, .int 0 0] } set1
  have it2 : ((s.heap.push (freshSet w)).push { cls := .type "list_iterator", data := .fields #[.ref l, .int 0 0] }).get? (s.heap.objs.size + 1) = some { cls := .type "list_iterator", data := .fields #[.ref l, .int 0 0] } := by
    have := Heap.get?_push_size (s.heap.push (freshSet w)) (o := { cls := .type "list_iterator", data := .fields #[.ref l, .int 0 0] }) rfl
    rwa [z1] at this
  have apart : s.heap.objs.size ∉ [s.heap.objs.size + 1, l] := by
    intro z
    rcases List.mem_cons.mp z with z | z
    · exact absurd z (Nat.ne_of_lt (Nat.lt_succ_self _))
    · exact absurd (List.mem_singleton.mp z) (Nat.ne_of_gt lt)
  have walk := (Walks.list (prog := P) (w := w) g (s.heap.objs.size + 1) l (Nat.ne_of_lt (Nat.lt_succ_of_lt lt)) its).toS
  refine set_update_ints walk s.heap.objs.size apart zs sz many (fun i v hv => ?_) its.size 0 _ (Nat.sub_zero _) (Nat.zero_le _) ⟨⟨_, it2, rfl, rfl⟩, (hl.push _).push _⟩ ⟨0, Nat.le_refl 0, setR_new_at set2⟩ fun s' c hm hc hS => ?_
  · have hi : i < zs.length := by rw [← sz]; exact (Array.getElem?_eq_some_iff.mp hv).1
    obtain ⟨t, e⟩ := PyProof.Rows.IntsAre.int_at hz i v (by rw [Array.getElem?_toList]; exact hv)
    exact ⟨zs[i], t, List.getElem?_eq_getElem hi, by rw [e, List.getD_eq_getElem?_getD, List.getElem?_eq_getElem hi]; rfl⟩
  · obtain ⟨h', g2, d', tk', os'⟩ := s'
    obtain rfl : g2 = s.gens := hm.gens
    obtain rfl : d' = s.drawn := hm.drawn
    obtain rfl : os' = s.os := hm.os
    refine k h' tk' c hS (by rw [← sz]; exact hc) fun b o e => hm.heap b o (fun z => ?_) (Heap.get?_push_of_some _ (Heap.get?_push_of_some _ e))
    have hb := Heap.lt_size e
    rcases List.mem_cons.mp z with z | z
    · exact absurd z (Nat.ne_of_lt hb)
    · exact absurd (List.mem_singleton.mp z) (Nat.ne_of_lt (Nat.lt_succ_of_lt hb))
open F in
set_option maxHeartbeats 3200000 in
theorem set_of_list {l : Addr} {its : Array Value} {zs : List Int} {Q : Value → Shared → Prop} (calm : A.handled = none) (hz : PyProof.Rows.IntsAre its.toList zs) (many : zs.length + 1 < scanBound) (hl : s.heap.IsList l its)
    (k : ∀ (h' : Heap) (tk c : Nat), SetR w h' s.heap.objs.size (fun j => decide (j ∈ zs)) c → c ≤ zs.length → (∀ b o, s.heap.get? b = some o → h'.get? b = some o) → Q (.ref s.heap.objs.size) { s with heap := h', toks := tk }) :
    wpAny (model P w) A (call (.type "set") [.ref l]) Q E s := by
  have i1 := called_set.made; have i2 := called_set.sub
  have i3 := called_set.notType; have i4 := called_set.canCreate
  have i5 := typeCall_set_1 (.ref l)
  obtain ⟨c, tl, mro⟩ := called_set.mro
  refine wpAny_call (codeAny_of_tree ?_)
  show wpAny _ _ (callAny (.type "set") _) _ _ _
  refine wpAny_pure ⟨Code.quiet_builtin _ (by decide +kernel), ?_⟩
  refine codeAny_builtin entry_type_call ?_
  rw [Around.under_plain (weight_type_call_type "set" [.ref l] []) rfl]
  repeat (any_goals (first | assumption | wp_step))
  refine codeAny_mono (code_set_led1 (.ref l) (E := E) (Q₁ := fun v t => v = .ref s.heap.objs.size ∧ t = { s with heap := s.heap.push (freshSet w) }) ⟨rfl, rfl⟩) ?_
  rintro (e | v) t hr
  · exact hr
  cases v with
  | next => exact hr.elim
  | brk => exact hr.elim
  | cont => exact hr.elim
  | ret v =>
    obtain ⟨rfl, rfl⟩ := hr
    have at1 : (s.heap.push (freshSet w)).get? s.heap.objs.size = some (freshSet w) := Heap.get?_push_size _ rfl
    have ty1 : Shared.TypeIs { s with heap := s.heap.push (freshSet w) } (.ref s.heap.objs.size) "set" := ⟨_, at1, rfl⟩
    have j1 := called_set.init.lookup; have j2 := called_set.init.bind (.ref s.heap.objs.size)
    repeat (any_goals (first | assumption | wp_step))
    refine codeAny_mono (codeAny_call_builtin (R := wants (fun v t => v = .none ∧ ∃ h' tk n, t = { s with heap := h', toks := tk } ∧ SetR w h' s.heap.objs.size (fun j => decide (j ∈ zs)) n ∧ n ≤ zs.length ∧ (∀ b o, s.heap.get? b = some o → h'.get? b = some o)) E)
      called_set.init.plain entry_set_init (check_set_init_1 ty1 ?_)) ?_
    · obtain ⟨⟨cl, dd, da, sl⟩, at2, e1, n2, e2⟩ := id hl
      dsimp only at e1 e2
      subst e1 e2
      have at3 := Heap.get?_push_of_some (freshSet w) at2
      have j3 := sub_list_set; have j4 := sub_list_frozenset
      have j5 : (Value.type "list" == Value.type "dict") = false := by decide
      unfold Builtin.«set.__init__» noKeywords Builtin.Frozenset.updateFrom
      generalize hgo : pyIter = go
      wp_walk
      subst hgo
      refine wpAny_pyIter_list (hl.push _) ?_
      refine wpAny_bind (wpAny_runValue ?_)
      have z1 : (s.heap.push (freshSet w)).objs.size = s.heap.objs.size + 1 := Heap.size_push _ _
      show codeAny _ _ (.builtin "set.update.loop" ⟨[.ref s.heap.objs.size, .ref (s.heap.push (freshSet w)).objs.size], []⟩) _ _
      rw [z1]
      refine init_list (by simp [calm]) hz many hl fun h' tk n hS hn hk => ?_
      show wpAny _ _ _ _ _ _
      exact wpAny_pure (wpAny_pure ⟨rfl, h', tk, n, rfl, hS, hn, hk⟩)
    · rintro (e | v) t hr
      · exact hr
      cases v with
      | next => exact hr.elim
      | brk => exact hr.elim
      | cont => exact hr.elim
      | ret v =>
        obtain ⟨rfl, h', tk, n, rfl, hS, hn, hk⟩ := hr
        repeat (any_goals (first | assumption | wp_step))
        exact k _ _ _ hS hn hk
end
end BW

set_option maxRecDepth 100000
namespace BW
open PySem PySem.Spec L2

/-! ### sorted(set(xs)), xs a list of ints -/
def insU (x : Int) : List Int → List Int
  | [] => [x]
  | y :: r => if x < y then x :: y :: r else if x = y then y :: r else y :: insU x r
def sortU (l : List Int) : List Int := l.foldr insU []
theorem insU_mem (x : Int) : ∀ (l : List Int) (z : Int), z ∈ insU x l ↔ z = x ∨ z ∈ l
  | [], z => by simp [insU]
  | y :: r, z => by
    unfold insU
    split
    · simp
    · split
      · rename_i h; subst h; simp
      · rw [List.mem_cons, insU_mem x r z, List.mem_cons]
        constructor
        · rintro (h | h | h)
          · exact .inr (.inl h)
          · exact .inl h
          · exact .inr (.inr h)
        · rintro (h | h | h)
          · exact .inr (.inl h)
          · exact .inl h
          · exact .inr (.inr h)
theorem insU_sorted (x : Int) : ∀ l : List Int, l.Pairwise (· < ·) → (insU x l).Pairwise (· < ·)
  | [], _ => by simp [insU]
  | y :: r, h => by
    have h' := List.pairwise_cons.mp h
    unfold insU
    split
    · rename_i c
      refine List.pairwise_cons.mpr ⟨fun z hz => ?_, h⟩
      rcases List.mem_cons.mp hz with rfl | hz
      · exact c
      · exact Int.lt_trans c (h'.1 z hz)
    · split
      · exact h
      · refine List.pairwise_cons.mpr ⟨fun z hz => ?_, insU_sorted x r h'.2⟩
        rcases (insU_mem x r z).mp hz with rfl | hz
        · omega
        · exact h'.1 z hz
theorem sortU_sorted : ∀ l : List Int, (sortU l).Pairwise (· < ·)
  | [] => List.Pairwise.nil
  | x :: l => insU_sorted x _ (sortU_sorted l)
theorem sortU_mem : ∀ (l : List Int) (z : Int), z ∈ sortU l ↔ z ∈ l
  | [], z => Iff.rfl
  | x :: l, z => by
    show z ∈ insU x (sortU l) ↔ _
    rw [insU_mem, sortU_mem l z, List.mem_cons]
theorem sorted_one : ∀ {l m : List Int}, l.Pairwise (· < ·) → m.Pairwise (· < ·) → (∀ z, z ∈ l ↔ z ∈ m) → l = m
  | [], [], _, _, _ => rfl
  | [], y :: m, _, _, h => absurd ((h y).mpr List.mem_cons_self) (by simp)
  | x :: l, [], _, _, h => absurd ((h x).mp List.mem_cons_self) (by simp)
  | x :: l, y :: m, hl, hm, h => by
    have hl' := List.pairwise_cons.mp hl
    have hm' := List.pairwise_cons.mp hm
    have e : x = y := by
      rcases List.mem_cons.mp ((h x).mp List.mem_cons_self) with e | e
      · exact e
      · rcases List.mem_cons.mp ((h y).mpr List.mem_cons_self) with e2 | e2
        · exact e2.symm
        · have := hm'.1 x e; have := hl'.1 y e2; omega
    subst e
    congr 1
    refine sorted_one hl'.2 hm'.2 fun z => ⟨fun hz => ?_, fun hz => ?_⟩
    · rcases List.mem_cons.mp ((h z).mp (List.mem_cons_of_mem _ hz)) with e | e
      · subst e; have := hl'.1 z hz; omega
      · exact e
    · rcases List.mem_cons.mp ((h z).mpr (List.mem_cons_of_mem _ hz)) with e | e
      · subst e; have := hm'.1 z hz; omega
      · exact e
def rSetL (K : PySem.W.Frag) (w : World) : List V → Hp → VK → Prop := fun xs H Q => ∃ (a : Addr) (ns : List Int), xs = [.ref a] ∧ SqL K H a (ns.map V.int) ∧ ns.length < 1000 ∧ ∀ p c, H p = none → c ≤ ns.length → Q (.ref p) (upd H p (SetO w p (fun j => decide (j ∈ ns)) c))
section
variable {X : Cx}
theorem cr_setL (hc : X.calm = true) : CallR X (.type "set") (rSetL X.K X.w) := by
  intro pins s σ H xs us Q I r h
  obtain ⟨a, ns, rfl, hq, hl, q⟩ := h
  obtain ⟨u, rfl, r1⟩ := vals1 r
  obtain rfl : u = Value.ref a := r1
  obtain ⟨its, rv, pl, _⟩ := I.list hq
  refine set_of_list (I.ok.hd hc) (zs := ns) (by simpa using rv.ints) (by unfold scanBound; omega) pl.isList fun h' tk c hS hn hk => ?_
  have hf : H s.heap.objs.size = none := I.hok.fresh (Nat.le_refl _)
  exact ⟨.ref s.heap.objs.size, _, I.laid (t' := tk) hk (Nat.le_refl _) (setO_new hS), rfl, q _ c hf hn⟩
variable {Z : Fm} {own : List Nat} {pos pos' p p' : Pos} {e : Expr} {f : ME}
def eSortSet (f : ME) : ME := fun ρ => match f ρ with
  | some (.lst ds) => (match intsOf ds with
    | some ns => if ns.length < 64 then some (.lst ((sortU ns).map .int)) else none
    | none => none)
  | _ => none
theorem df_sortSet (hc : X.calm = true) (hm : X.mg "sorted" = none) (hm2 : X.mg "set" = none) (he : DE X Z own e f) (hg : Gl X "sorted" := by rfl) (hg2 : Gl X "set" := by rfl)
    (hs : starEach [e] X.env = (false, eval e X.env) :: starEach [] X.env := by rfl) (hpl : (backTo pos' (starEach [] X.env)).any (·.1) = false := by rfl)
    (hs2 : starEach [.Call (.Name "set" p') [e] [] pos'] X.env = (false, eval (.Call (.Name "set" p') [e] [] pos') X.env) :: starEach [] X.env := by rfl) (hpl2 : (backTo pos (starEach [] X.env)).any (·.1) = false := by rfl) :
    DF X Z own (.Call (.Name "sorted" p) [.Call (.Name "set" p') [e] [] pos'] [] pos) (eSortSet f) := by
  refine PE.mono (pe_callB (cr_sortedSet hc) hg hm (by decide +kernel) (pa_cons (pe_callTy (cr_setL hc) hg2 hm2 (by decide +kernel) (pa_cons he pa_nil hs) (by decide) (by decide) hs hpl) pa_nil hs2) (by decide) (by decide) hs2 hpl2) fun σ H Q ⟨H0, ρ, r, S, e, q⟩ => ?_
  unfold eSortSet at e
  split at e
  · rename_i ds h1
    split at e
    · rename_i ns h2
      split at e
      · rename_i h3
        cases e
        have e2 := intsOf_eq h2
        subst e2
        refine tD.one S h1 fun v H1 H01 S1 g1 r1 => ?_
        obtain ⟨a, xs, rfl, hq, rl⟩ := r1.lst_inv
        have e3 := rl.int_inv
        subst e3
        refine ⟨a, ns, rfl, g1.sub.seq hq, by omega, fun p c hp hcl => ?_⟩
        refine ⟨p, _, c, rfl, upd_same, by omega, fun ms p2 h4 h5 h6 hp2 => ?_⟩
        have e4 : ms = sortU ns := sorted_one h4 (sortU_sorted ns) fun z => by rw [h5 z, sortU_mem]; exact decide_eq_true_iff
        subst e4
        have hne : p2 ≠ p := by
          rintro rfl
          rw [upd_same] at hp2
          cases hp2
        rw [upd_ne hne] at hp2
        have n0 : H01 p2 = none := Same.free g1.sub hp2
        have np : H01 p = none := Same.free g1.sub hp
        refine q p2 _ H01 ⟨g1.s0, g1.s.trans ((fun b u e => ?_ : Same H1 _)), fun b u e => ?_, g1.new⟩ (Same.free g1.s hp2) n0 ⟨_, upd_same, RepL.ints⟩
        · rw [upd_ne (ne_of_none e hp2), upd_ne (ne_of_none e hp)]; exact e
        · rw [upd_ne (ne_of_none e n0), upd_ne (ne_of_none e np)]; exact g1.sub b u e
      · cases e
    · cases e
  · cases e
/-! list(xs) -/
def eList (f : ME) : ME := fun ρ => match f ρ with
  | some (.lst ds) => some (.lst ds)
  | some (.tup ds) => some (.lst ds)
  | _ => none
theorem df_list (hm : X.mg "list" = none) (he : DE X Z own e f) (hg : Gl X "list" := by rfl) (hs : starEach [e] X.env = (false, eval e X.env) :: starEach [] X.env := by rfl) (hpl : (backTo pos (starEach [] X.env)).any (·.1) = false := by rfl) :
    DF X Z own (.Call (.Name "list" p) [e] [] pos) (eList f) := by
  refine PE.mono (pe_callTy call_list_of hg hm (by decide +kernel) (pa_cons he pa_nil hs) (by decide) (by decide) hs hpl) fun σ H Q ⟨H0, ρ, r, S, e, q⟩ => ?_
  unfold eList at e
  have fin : ∀ {H1 H01 : Hp} {xs : List V} {ds : List D}, Grow H0 H H01 H1 → RepL X.K H01 xs ds → r = .lst ds → ∀ l, H1 l = none → Q (.ref l) (upd H1 l (.lst xs)) := by
    rintro H1 H01 xs ds g1 rl rfl l hl
    have n0 : H01 l = none := Same.free g1.sub hl
    exact q l _ H01 ⟨g1.s0, g1.s.trans fun b u e => by rw [upd_ne (ne_of_none e hl)]; exact e, fun b u e => by rw [upd_ne (ne_of_none e n0)]; exact g1.sub b u e, g1.new⟩ (Same.free g1.s hl) n0 ⟨xs, upd_same, rl⟩
  split at e
  · rename_i ds h1
    cases e
    refine tD.one S h1 fun v H1 H01 S1 g1 r1 => ?_
    obtain ⟨a, xs, rfl, hq, rl⟩ := r1.lst_inv
    exact ⟨a, xs, rfl, .inl (g1.sub.seq hq), fin g1 rl rfl⟩
  · rename_i ds h1
    cases e
    refine tD.one S h1 fun v H1 H01 S1 g1 r1 => ?_
    obtain ⟨a, xs, rfl, hq, rl⟩ := r1.tup_inv
    exact ⟨a, xs, rfl, .inr (Same.seqT g1.sub hq), fin g1 rl rfl⟩
  · cases e
end

/-! ### in, not in: a plain thing among plain things of a list or tuple -/
/-- a plain thing, as a value -/
def flatD : D → Option V
  | .non => some .non | .bl b => some (.bl b) | .int i => some (.int i) | .str x => some (.str x)
  | _ => none
def flatDs : List D → Option (List V)
  | [] => some []
  | d :: ds => match flatD d, flatDs ds with
    | some v, some vs => some (v :: vs)
    | _, _ => none
def inD (d : D) (ds : List D) : Option Bool := match flatD d, flatDs ds with
  | some v, some vs => if flatV v && vs.all flatV then some (inV v vs) else none
  | _, _ => none
theorem Rep.flat {K : PySem.W.Frag} {H : Hp} : ∀ {d : D} {v u : V}, Rep K H v d → flatD d = some u → v = u
  | .non, _, _, h, e => by cases h; cases e; rfl
  | .bl _, _, _, h, e => by cases h; cases e; rfl
  | .int _, _, _, h, e => by cases h; cases e; rfl
  | .str _, _, _, h, e => by cases h; cases e; rfl
  | .lst _, _, _, _, e => by cases e
  | .tup _, _, _, _, e => by cases e
  | .dct _, _, _, _, e => by cases e
  | .ins _ _, _, _, _, e => by cases e
theorem RepL.flat {K : PySem.W.Frag} {H : Hp} : ∀ {ds : List D} {vs us : List V}, RepL K H vs ds → flatDs ds = some us → vs = us
  | [], _, _, h, e => by cases h; cases e; rfl
  | d :: ds, _, _, h, e => by
    cases h with
    | cons a b =>
      unfold flatDs at e
      split at e
      · rename_i v vs h1 h2
        cases e
        rw [a.flat h1, RepL.flat b h2]
      · cases e
def gIn : G2 := fun d e => match e with
  | .lst ds => (inD d ds).map .bl
  | .tup ds => (inD d ds).map .bl
  | _ => none
def gNotIn : G2 := fun d e => match e with
  | .lst ds => (inD d ds).map fun b => .bl (!b)
  | .tup ds => (inD d ds).map fun b => .bl (!b)
  | _ => none
theorem inD_some {d : D} {ds : List D} {b : Bool} (h : inD d ds = some b) : ∃ v vs, flatD d = some v ∧ flatDs ds = some vs ∧ flatV v = true ∧ vs.all flatV = true ∧ b = inV v vs := by
  unfold inD at h
  split at h
  · rename_i v vs h1 h2
    split at h
    · rename_i h3
      cases h
      rw [Bool.and_eq_true] at h3
      exact ⟨v, vs, h1, h2, h3.1, h3.2, rfl⟩
    · cases h
  · cases h
section
variable {X : Cx}
theorem dop_in : DOp X (compareOp .In) gIn := by
  refine OpR.imp op_in_seq fun x y H Q ⟨H0, d, e, r, s, rx, ry, eg, q⟩ => ?_
  unfold gIn at eg
  split at eg
  · obtain ⟨b, e1, rfl⟩ := map_some' eg
    obtain ⟨v, vs, h1, h2, h3, h4, rfl⟩ := inD_some e1
    obtain ⟨p, xs, rfl, hq, rl⟩ := ry.lst_inv
    have := rx.flat h1; have := rl.flat h2
    subst x xs
    exact ⟨p, vs, rfl, .inl (s.seq hq), h3, h4, q _ _ _ (Grow.refl s) (.bl _)⟩
  · obtain ⟨b, e1, rfl⟩ := map_some' eg
    obtain ⟨v, vs, h1, h2, h3, h4, rfl⟩ := inD_some e1
    obtain ⟨p, xs, rfl, hq, rl⟩ := ry.tup_inv
    have := rx.flat h1; have := rl.flat h2
    subst x xs
    exact ⟨p, vs, rfl, .inr (Same.seqT s hq), h3, h4, q _ _ _ (Grow.refl s) (.bl _)⟩
  · cases eg
theorem dop_notIn : DOp X (compareOp .NotIn) gNotIn := by
  refine OpR.imp op_notIn_seq fun x y H Q ⟨H0, d, e, r, s, rx, ry, eg, q⟩ => ?_
  unfold gNotIn at eg
  split at eg
  · obtain ⟨b, e1, rfl⟩ := map_some' eg
    obtain ⟨v, vs, h1, h2, h3, h4, rfl⟩ := inD_some e1
    obtain ⟨p, xs, rfl, hq, rl⟩ := ry.lst_inv
    have := rx.flat h1; have := rl.flat h2
    subst x xs
    exact ⟨p, vs, rfl, .inl (s.seq hq), h3, h4, q _ _ _ (Grow.refl s) (.bl _)⟩
  · obtain ⟨b, e1, rfl⟩ := map_some' eg
    obtain ⟨v, vs, h1, h2, h3, h4, rfl⟩ := inD_some e1
    obtain ⟨p, xs, rfl, hq, rl⟩ := ry.tup_inv
    have := rx.flat h1; have := rl.flat h2
    subst x xs
    exact ⟨p, vs, rfl, .inr (Same.seqT s hq), h3, h4, q _ _ _ (Grow.refl s) (.bl _)⟩
  · cases eg
end
end BW

set_option maxRecDepth 100000
namespace BW
open PySem PySem.Spec L2

/-! ### dicts by data -/
def lookD (es : List (Key × D)) (k : Key) : Option D := (es.find? fun p => decide (p.1 = k)).map (·.2)
def storeD (es : List (Key × D)) (k : Key) (d : D) : List (Key × D) :=
  if (es.any fun p => decide (p.1 = k)) = true then es.map (fun p => if p.1 = k then (p.1, d) else p) else es ++ [(k, d)]
theorem RepK.length {K : PySem.W.Frag} {H : Hp} : ∀ {es : List (Key × D)} {vs : List (Key × V)}, RepK K H vs es → vs.length = es.length
  | [], _, h => by cases h; rfl
  | _ :: es, _, h => by
    cases h with
    | cons a b => rw [List.length_cons, List.length_cons, RepK.length b]
theorem RepK.keys {K : PySem.W.Frag} {H : Hp} : ∀ {es : List (Key × D)} {vs : List (Key × V)}, RepK K H vs es → vs.map (·.1) = es.map (·.1)
  | [], _, h => by cases h; rfl
  | _ :: es, _, h => by
    cases h with
    | cons a b => rw [List.map_cons, List.map_cons, RepK.keys b]
theorem RepK.any {K : PySem.W.Frag} {H : Hp} (k : Key) : ∀ {es : List (Key × D)} {vs : List (Key × V)}, RepK K H vs es → (vs.any fun p => decide (p.1 = k)) = (es.any fun p => decide (p.1 = k))
  | [], _, h => by cases h; rfl
  | _ :: es, _, h => by
    cases h with
    | cons a b => rw [List.any_cons, List.any_cons, RepK.any k b]
theorem RepK.look {K : PySem.W.Frag} {H : Hp} (k : Key) : ∀ {es : List (Key × D)} {vs : List (Key × V)}, RepK K H vs es → ∀ d, lookD es k = some d → ∃ v, valV vs k = some v ∧ Rep K H v d
  | [], _, h, d, e => by cases e
  | (k', d') :: es, _, h, d, e => by
    cases h with
    | @cons _ v vs _ _ a b =>
      by_cases c : k' = k
      · subst c
        have : d' = d := by
          unfold lookD at e
          rw [List.find?_cons_of_pos (by simp)] at e
          exact Option.some.inj e
        subst this
        exact ⟨v, valV_pos rfl, a⟩
      · have e' : lookD es k = some d := by
          unfold lookD at e ⊢
          rwa [List.find?_cons_of_neg (by simpa using c)] at e
        obtain ⟨w, h1, h2⟩ := RepK.look k b d e'
        exact ⟨w, by rw [valV_neg (show ¬ (k', v).1 = k from c)]; exact h1, h2⟩
theorem RepK.look_none {K : PySem.W.Frag} {H : Hp} (k : Key) : ∀ {es : List (Key × D)} {vs : List (Key × V)}, RepK K H vs es → lookD es k = none → valV vs k = none
  | [], _, h, e => by cases h; rfl
  | (k', d') :: es, _, h, e => by
    cases h with
    | @cons _ v vs _ _ a b =>
      by_cases c : k' = k
      · unfold lookD at e
        rw [List.find?_cons_of_pos (by simpa using c)] at e
        cases e
      · have e' : lookD es k = none := by
          unfold lookD at e ⊢
          rwa [List.find?_cons_of_neg (by simpa using c)] at e
        rw [valV_neg (show ¬ (k', v).1 = k from c)]
        exact RepK.look_none k b e'
theorem RepK.put {K : PySem.W.Frag} {H : Hp} {k : Key} {v : V} {d : D} (r : Rep K H v d) {es : List (Key × D)} {vs : List (Key × V)} (h : RepK K H vs es) : RepK K H (putK vs k v) (storeD es k d) := by
  unfold putK storeD
  rw [h.any k]
  split
  · have : ∀ {es : List (Key × D)} {vs : List (Key × V)}, RepK K H vs es → RepK K H (vs.map fun p => if p.1 = k then (p.1, v) else p) (es.map fun p => if p.1 = k then (p.1, d) else p) := by
      intro es
      induction es with
      | nil => intro vs h; cases h; exact .nil
      | cons p es ih =>
        intro vs h
        cases h with
        | @cons k' _ _ _ _ a b =>
          rw [List.map_cons, List.map_cons]
          by_cases c : k' = k
          · rw [if_pos c, if_pos c]; exact .cons r (ih b)
          · rw [if_neg c, if_neg c]; exact .cons a (ih b)
    exact this h
  · have : ∀ {es : List (Key × D)} {vs : List (Key × V)}, RepK K H vs es → RepK K H (vs ++ [(k, v)]) (es ++ [(k, d)]) := by
      intro es
      induction es with
      | nil => intro vs h; cases h; exact .cons r .nil
      | cons p es ih =>
        intro vs h
        cases h with
        | cons a b => exact .cons a (ih b)
    exact this h
theorem keyD_rep {K : PySem.W.Frag} {H : Hp} {v : V} {d : D} {k : Key} (r : Rep K H v d) (h : keyD d = some k) : v = kV k := by
  unfold keyD at h
  split at h
  · cases h; exact r.int_inv
  · cases h; exact r.str_inv
  · cases h
section
variable {X : Cx} {Z : Fm} {own own' L : List Nat} {pos p1 p2 : Pos} {e k a b : Expr} {f fk f' : ME} {x : Str}
theorem df_dnew : DF X Z own (.Dict [] [] pos) (eC (.dct [])) := PE.mono pe_dnewK fun σ H Q ⟨H0, ρ, d, S, e, q⟩ p hp => by
  cases e
  have hp0 : H0 p = none := Same.free S.hs.s hp
  exact q p _ H0 ⟨Same.refl _, fun b u e => by rw [upd_ne (ne_of_none e hp)]; exact e, fun b u e => by rw [upd_ne (ne_of_none e hp0)]; exact S.hs.s b u e, fun _ _ h => h⟩ hp hp0 ⟨[], upd_same, .nil⟩
def gDGet : G2 := fun d e => match d, keyD e with
  | .dct es, some k => lookD es k
  | _, _ => none
theorem de_dget {j : Nat} (hr : Room j X.A) (ha : DE X Z own a f) (hb : DE X Z own b f') (hs : NoSl b := by exact fun _ _ => rfl) : DE X Z own (.Subscript a b pos) (eBin gDGet f f') := by
  refine PE.mono (pe_dget (hu_of hr) ha hb hs) fun σ H Q ⟨H0, ρ, r, S, e, q⟩ => ?_
  obtain ⟨d, d', e1, e2, e3⟩ := eBin_some e
  refine tD.one S e1 fun v H1 H01 S1 g1 r1 => tD.one S1 e2 fun u H2 H02 S2 g2 r2 => ?_
  unfold gDGet at e3
  split at e3
  · rename_i es k hk
    obtain ⟨p, vs, rfl, hd, rk⟩ := (r1.up g2.s0).dct_inv
    obtain ⟨w, h1, h2⟩ := rk.look k r e3
    exact ⟨p, w, rfl, .inl ⟨vs, k, Same.rd S2.hs.s hd, keyD_rep r2 hk, h1.symm⟩, q _ _ _ (g1.trans g2) h2⟩
  · cases e3
/-- d[k] = e, d a name's own dict -/
def sDPut (i : Nat) (fk fv : ME) : MS := fun ρ => match (ρ[i]?).join, (fk ρ).bind keyD, fv ρ with
  | some (.dct es), some k, some d => if es.length < 16777216 then .nx (ρ.set i (some (.dct (storeD es k d)))) else .no
  | _, _, _ => .no
theorem ds_dput {i j : Nat} (hr : Room j X.A) (hk : DE X Z own k fk) (he : DE X Z own e f) (hio : i ∈ own := by decide) (hN : X.N[i]? = some x := by rfl) (hv : Vis X.env.scope x := by first | exact Or.inl rfl | exact Or.inr (Or.inl rfl) | exact Or.inr (Or.inr rfl)) (hd : (x == ("__debug__" : Str)) = false := by decide)
    (hcd : (x == ("__classdict__" : Str)) = false := by decide) (hs : swapsWith e (some (.Subscript (.Name x p1) k p2)) pos.line X.env = pure false := by rfl) :
    DS X Z L own own (.Assign [.Subscript (.Name x p1) k p2] e pos) (sDPut i fk f) := by
  refine PS.mono (ps_dput (hu_of hr) (pe_var hN hv hd hcd) hk he hs) fun Dn σ H ⟨H0, ρ, S, q⟩ => ?_
  unfold sDPut at q
  split at q
  · rename_i es k d h1 h2 h3
    split at q
    · rename_i hl
      have e1 := join_some h1
      cases hk' : fk ρ with
      | none => rw [hk'] at h2; cases h2
      | some dk =>
        rw [hk'] at h2
        refine tD.one S h3 fun v H1 H01 S1 g1 r1 => ?_
        obtain ⟨a, e2, n0, ni, vs, o, r⟩ := S1.ownd i _ e1 hio
        refine ⟨_, e2, tD.one S1 hk' fun u H2 H02 S2 g2 r2 => ?_⟩
        obtain ⟨a', e2', n0', ni', vs', o', r'⟩ := S2.ownd i _ e1 hio
        rw [e2] at e2'
        cases e2'
        refine ⟨a, _, rfl, .inl ⟨vs', k, o', keyD_rep r2 h2, by rw [r'.length, szl]; exact hl, rfl⟩, ?_⟩
        exact q σ _ H02 (S2.turn hio e1 e2 ⟨_, upd_same, r'.put (r1.up g2.s0)⟩) (g1.s0.trans g2.s0)
    · exact q.elim
  · exact q.elim
/-- dict(d): a copy -/
def eDict (f : ME) : ME := fun ρ => match f ρ with
  | some (.dct es) => some (.dct es)
  | _ => none
theorem cr_dictD : CallR X (.type "dict") (fun xs H Q => ∃ a kvs, xs = [.ref a] ∧ L2.Rd H a (.dK kvs) ∧ ∀ p, H p = none → Q (.ref p) (upd H p (.dK kvs))) := by
  intro pins s σ H xs us Q I r h
  obtain ⟨a, kvs, rfl, hd, q⟩ := h
  obtain ⟨u, rfl, r1⟩ := vals1 r
  obtain rfl : u = Value.ref a := r1
  exact d_copyOf I hd fun p s' hp I' => ⟨.ref p, _, I', rfl, q p hp⟩
theorem df_dict (hm : X.mg "dict" = none) (he : DE X Z own e f) (hg : Gl X "dict" := by rfl) (hs : starEach [e] X.env = (false, eval e X.env) :: starEach [] X.env := by rfl) (hpl : (backTo pos (starEach [] X.env)).any (·.1) = false := by rfl) :
    DF X Z own (.Call (.Name "dict" p1) [e] [] pos) (eDict f) := by
  refine PE.mono (pe_callTy cr_dictD hg hm (by decide +kernel) (pa_cons he pa_nil hs) (by decide) (by decide) hs hpl) fun σ H Q ⟨H0, ρ, r, S, e, q⟩ => ?_
  unfold eDict at e
  split at e
  · rename_i es h1
    cases e
    refine tD.one S h1 fun v H1 H01 S1 g1 r1 => ?_
    obtain ⟨a, vs, rfl, hd, rk⟩ := r1.dct_inv
    refine ⟨a, vs, rfl, Same.rd g1.sub hd, fun l hl => ?_⟩
    have n0 : H01 l = none := Same.free g1.sub hl
    exact q l _ H01 ⟨g1.s0, g1.s.trans fun b u e => by rw [upd_ne (ne_of_none e hl)]; exact e, fun b u e => by rw [upd_ne (ne_of_none e n0)]; exact g1.sub b u e, g1.new⟩ (Same.free g1.s hl) n0 ⟨vs, upd_same, rk⟩
  · cases e
/-! a displayed dict -/
structure DPs (X : Cx) (Z : Fm) (own : List Nat) (pos : Pos) (keys : List (Option Expr)) (values : List Expr) (fs : List (ME × ME)) : Prop where
  run : PPs X pos keys values (fs.map fun p => (tD X.K Z own p.1, tD X.K Z own p.2))
theorem dps_nil : DPs X Z own pos [] [] [] := ⟨pps_nil⟩
theorem dps_cons {ks : List (Option Expr)} {vs : List Expr} {fs : List (ME × ME)} (hk : DE X Z own k fk) (hv : DE X Z own e f) (hr : DPs X Z own pos ks vs fs) : DPs X Z own pos (some k :: ks) (e :: vs) ((fk, f) :: fs) := ⟨pps_cons hk hv hr.run⟩
def pairsD : List (ME × ME) → Env' → Option (List (Key × D))
  | [], _ => some []
  | (fk, f) :: r, ρ => match (fk ρ).bind keyD, f ρ, pairsD r ρ with
    | some k, some d, some ps => some ((k, d) :: ps)
    | _, _, _ => none
def eDisp (fs : List (ME × ME)) : ME := fun ρ => (pairsD fs ρ).map fun ps => .dct (ps.foldl (fun acc p => storeD acc p.1 p.2) [])
theorem pairs_run {K : PySem.W.Frag} {σ : St} {ρ : Env'} : ∀ (fs : List (ME × ME)) (H H0 : Hp) (ps : List (Key × D)) (Q : List (V × V) → Hp → Prop), SR K Z own σ H0 H ρ → pairsD fs ρ = some ps →
    (∀ kvs H' H0', Grow H0 H H0' H' → RepK K H0' kvs ps → Q (kvs.map fun kv => (kV kv.1, kv.2)) H') → tPairs (fs.map fun p => (tD K Z own p.1, tD K Z own p.2)) σ H Q
  | [], H, H0, ps, Q, S, e, q => by
    cases e
    exact q [] H H0 (Grow.refl S.hs.s) .nil
  | (fk, f) :: r, H, H0, ps, Q, S, e, q => by
    unfold pairsD at e
    split at e
    · rename_i k d ps' h1 h2 h3
      cases e
      cases hk : fk ρ with
      | none => rw [hk] at h1; cases h1
      | some dk =>
        rw [hk] at h1
        refine tD.one S hk fun v H1 H01 S1 g1 r1 => tD.one S1 h2 fun u H2 H02 S2 g2 r2 => ?_
        refine pairs_run r H2 H02 ps' _ S2 h3 fun kvs H3 H03 g3 r3 => ?_
        have := keyD_rep r1 h1
        subst this
        exact q ((k, u) :: kvs) H3 H03 ((g1.trans g2).trans g3) (.cons (r2.up g3.s0) r3)
    · cases e
theorem RepK.merge {K : PySem.W.Frag} {H : Hp} : ∀ (ps : List (Key × D)) (kvs : List (Key × V)) (es : List (Key × D)) (vs : List (Key × V)), RepK K H kvs ps → RepK K H vs es → RepK K H (mergeK vs kvs) (ps.foldl (fun acc p => storeD acc p.1 p.2) es)
  | [], [], _, _, _, g => g
  | [], _ :: _, _, _, h, _ => nomatch h
  | _ :: _, [], _, _, h, _ => nomatch h
  | (k, d) :: ps, (k', v) :: kvs, es, vs, h, g => by
    have t : k' = k ∧ Rep K H v d ∧ RepK K H kvs ps := by
      cases h with
      | cons a b => exact ⟨rfl, a, b⟩
    obtain ⟨rfl, a, b⟩ := t
    exact RepK.merge ps kvs (storeD es k' d) (putK vs k' v) b (g.put a)
theorem df_disp {keys : List (Option Expr)} {values : List Expr} {fs : List (ME × ME)} (h : DPs X Z own pos keys values fs) (hl15 : fs.length ≤ 15 := by decide) (hall : keys.all (·.isSome) = true := by rfl) (hl : keys.length = values.length := by rfl) (h0 : keys ≠ [] := by exact fun z => nomatch z) (h15 : keys.length ≤ 15 := by decide) :
    DF X Z own (.Dict keys values pos) (eDisp fs) := by
  refine PE.mono (pe_disp h.run hall hl h0 h15) fun σ H Q ⟨H0, ρ, r, S, e, q⟩ p hp => ?_
  obtain ⟨ps, e1, rfl⟩ := map_some' e
  have hp0 : H0 p = none := Same.free S.hs.s hp
  have hpi : Z.i p = none := Same.free S.hs.i hp
  have S1 := S.side (o := .dK []) hp0 hpi (S.apart_new hp)
  refine pairs_run fs _ H0 ps _ S1 e1 fun kvs H2 H02 g2 r2 => ?_
  have a1 : H2 p = some (.dK []) := g2.s p _ upd_same
  have n2 : H02 p = none := g2.new p (by rw [upd_same]; exact fun z => nomatch z) hp0
  have len : ∀ (fs : List (ME × ME)) (ps : List (Key × D)), pairsD fs ρ = some ps → ps.length = fs.length := by
    intro fs
    induction fs with
    | nil => intro ps h; cases h; rfl
    | cons x fs ih =>
      intro ps h
      unfold pairsD at h
      split at h
      · rename_i k d ps' _ _ h3
        cases h
        rw [List.length_cons, List.length_cons, ih ps' h3]
      · cases h
  refine ⟨a1, kvs, rfl, by rw [r2.length, len fs ps e1]; exact hl15, ?_⟩
  refine q p _ H02 ⟨g2.s0, fun b u e => ?_, fun b u e => ?_, fun b h1 h2 => g2.new b ?_ h2⟩ hp n2 ⟨_, upd_same, RepK.merge _ _ _ _ r2 .nil⟩
  · rw [upd_ne (ne_of_none e hp)]
    exact g2.s b u (by rw [upd_ne (ne_of_none e hp)]; exact e)
  · rw [upd_ne (ne_of_none e n2)]; exact g2.sub b u e
  · by_cases hb : b = p
    · subst hb; exact absurd hp h1
    · rw [upd_ne hb]; exact h1
/-! "".join(xs) -/
def strsOf : List D → Option (List Str)
  | [] => some []
  | .str x :: r => (strsOf r).map fun xs => x :: xs
  | _ :: _ => none
theorem strsOf_rep {K : PySem.W.Frag} {H : Hp} : ∀ {ds : List D} {xs : List Str} {vs : List V}, strsOf ds = some xs → RepL K H vs ds → vs = xs.map V.str
  | [], _, _, e, h => by cases e; cases h; rfl
  | .str x :: r, _, _, e, h => by
    obtain ⟨ys, e1, rfl⟩ := map_some' (show (strsOf r).map _ = some _ from e)
    cases h with
    | cons a b => rw [a.str_inv, strsOf_rep e1 b, List.map_cons]
  | .non :: _, _, _, e, _ => by cases e
  | .bl _ :: _, _, _, e, _ => by cases e
  | .int _ :: _, _, _, e, _ => by cases e
  | .lst _ :: _, _, _, e, _ => by cases e
  | .tup _ :: _, _, _, e, _ => by cases e
  | .dct _ :: _, _, _, e, _ => by cases e
  | .ins _ _ :: _, _, _, e, _ => by cases e
def gJoin : G2 := fun d e => match d, e with
  | .str a, .lst ds => (match strsOf ds with
    | some xs => if (xs.map (·.length)).sum + xs.length * a.length ≤ 16777216 then some (.str (Txt.join a xs)) else none
    | none => none)
  | _, _ => none
theorem de_join (ha : DE X Z own a f) (hb : DE X Z own e f') (hs : starEach [e] X.env = [(false, eval e X.env)] := by rfl) (hbase : attributeBase a "join" X.env (eval a X.env) = eval a X.env := by rfl) (hline : (p2.endLine == pos.line) = true := by rfl) :
    DE X Z own (.Call (.Attribute a "join" p2) [e] [] pos) (eBin gJoin f f') := by
  refine PE.mono (pe_join ha hb hs hbase hline) fun σ H Q ⟨H0, ρ, r, S, e, q⟩ => ?_
  obtain ⟨d, d', e1, e2, e3⟩ := eBin_some e
  unfold gJoin at e3
  split at e3
  · rename_i z ds
    split at e3
    · rename_i xs h3
      split at e3
      · rename_i hl
        cases e3
        refine tD.one S e1 fun v H1 H01 S1 g1 r1 => ?_
        have := r1.str_inv
        subst this
        refine ⟨⟨z, rfl⟩, tD.one S1 e2 fun u H2 H02 S2 g2 r2 => ?_⟩
        obtain ⟨p, vs, rfl, hq, rl⟩ := r2.lst_inv
        have := strsOf_rep h3 rl
        subst this
        exact ⟨z, p, xs, rfl, rfl, .inl (S2.hs.s.seq hq), hl, q _ _ _ (g1.trans g2) (.str _)⟩
      · cases e3
    · cases e3
  · cases e3
end
end BW

set_option maxRecDepth 100000
namespace BW
open PySem PySem.Spec L2

/-- nothing is promised of a call that goes no deeper -/
theorem sp_none {K : PySem.W.Frag} {n : Nat} {vs : List V} {H : Hp} {Q : VK} {E : XK} (h : spD K n (fun _ => none) vs H Q E) : False := by
  obtain ⟨_, _, _, _, _, _, e, _⟩ := h
  cases e
theorem fn_none {P : Program} {w : World} {K : PySem.W.Frag} {mg : Str → Option Value} {base : Heap} {k n : Nat} {f : Addr} {fd : FuncData} {ps : List Str} : FnOk P w K mg base CX0 k f fd ps (spD K n fun _ => none) where
  len vs H Q E h := (sp_none h).elim
  run A outer s H args us vs Q E r e b v h := (sp_none h).elim
/-! dicts of ints compared -/
def intsK : List (Key × D) → Option (List (Key × Int))
  | [] => some []
  | (k, .int i) :: r => (intsK r).map fun xs => (k, i) :: xs
  | _ :: _ => none
theorem intsK_rep {K : PySem.W.Frag} {H : Hp} : ∀ {es : List (Key × D)} {xs : List (Key × Int)} {vs : List (Key × V)}, intsK es = some xs → RepK K H vs es → vs = xs.map fun p => (p.1, V.int p.2)
  | [], _, _, e, h => by cases e; cases h; rfl
  | (k, .int i) :: r, _, _, e, h => by
    obtain ⟨ys, e1, rfl⟩ := map_some' (show (intsK r).map _ = some _ from e)
    cases h with
    | cons a b => rw [a.int_inv, intsK_rep e1 b, List.map_cons]
  | (_, .non) :: _, _, _, e, _ => by cases e
  | (_, .bl _) :: _, _, _, e, _ => by cases e
  | (_, .str _) :: _, _, _, e, _ => by cases e
  | (_, .lst _) :: _, _, _, e, _ => by cases e
  | (_, .tup _) :: _, _, _, e, _ => by cases e
  | (_, .dct _) :: _, _, _, e, _ => by cases e
  | (_, .ins _ _) :: _, _, _, e, _ => by cases e
theorem val_nodup : ∀ {xs : List (Key × Int)}, (xs.map (·.1)).Nodup → ∀ p ∈ xs, valV (xs.map fun q => (q.1, V.int q.2)) p.1 = some (V.int p.2)
  | x :: xs, h, p, hp => by
    rw [List.map_cons, List.nodup_cons] at h
    rw [List.map_cons]
    rcases List.mem_cons.mp hp with rfl | hp
    · exact valV_pos rfl
    · rw [valV_neg (show ¬ (x.1, V.int x.2).1 = p.1 from fun e => h.1 (e ▸ List.mem_map_of_mem hp))]
      exact val_nodup h.2 p hp
def gEqDI : G2 := fun d e => match d, e with
  | .dct a, .dct b => (match intsK a, intsK b with
    | some x, some y => if x = y ∧ (x.map (·.1)).Nodup then some (.bl true) else none
    | _, _ => none)
  | _, _ => none
theorem op_eqDI {X : Cx} (hu : X.A.units + 64 < cLine) : OpR X (compareOp .Eq) (fun x y H Q => ∃ (a b : Addr) (xs : List (Key × Int)), x = .ref a ∧ y = .ref b ∧ Rd H a (.dK (xs.map fun q => (q.1, V.int q.2))) ∧ Rd H b (.dK (xs.map fun q => (q.1, V.int q.2))) ∧ (xs.map (·.1)).Nodup ∧ Q (.bl true) H) := by
  intro pins s σ H x y v u Q I rx ry h
  obtain ⟨a, b, xs, rfl, rfl, ha, hb, nd, q⟩ := h
  cases (show v = Value.ref a from rx)
  cases (show u = Value.ref b from ry)
  obtain ⟨_, ya, va, ra, da⟩ := dk_rd I.hok ha
  obtain ⟨_, yb, vb, rb, db⟩ := dk_rd I.hok hb
  have ih : ∀ (x y : V) (v u : Value), (x = y ∧ flatB x = true) → RelV x v → RelV y u → SeqAt.EqP X.prog X.w X.A.in1 s v u true := by
    rintro x y v u ⟨rfl, f⟩ r1 r2
    exact (eqAt_same r1 r2 f).eqP
  refine PySem.W.rcP_dicts (knd := mixKind X.prog X.w) (r := true) ya yb da db (by omega) (fun _ => hits_run ih rb ra fun z hz => ?_) _ _ ?_
  · obtain ⟨w, hw, rfl⟩ := List.mem_map.mp hz
    exact ⟨_, val_nodup nd w hw, rfl, rfl⟩
  · have e : va.length = vb.length := by rw [← ra.length, ← rb.length]
    rw [show (va.length == vb.length && true) = true from by rw [e]; simp]
    exact ⟨.bl true, H, I, rfl, q⟩
theorem dop_eqDI {X : Cx} {k : Nat} (hr : Room k X.A) : DOp X (compareOp .Eq) gEqDI := by
  refine OpR.imp (op_eqDI hr.units) fun x y H Q ⟨H0, d, e, r, s, rx, ry, eg, q⟩ => ?_
  unfold gEqDI at eg
  split at eg
  · rename_i a b
    split at eg
    · rename_i x' y' h1 h2
      split at eg
      · rename_i h3
        cases eg
        obtain ⟨rfl, nd⟩ := h3
        obtain ⟨p, vs, rfl, hd, rk⟩ := (rx.up s).dct_inv
        obtain ⟨p', vs', rfl, hd', rk'⟩ := (ry.up s).dct_inv
        have e1 := intsK_rep h1 rk
        have e2 := intsK_rep h2 rk'
        subst e1
        subst e2
        exact ⟨p, p', _, rfl, rfl, hd, hd', nd, q _ _ _ (Grow.refl s) (.bl _)⟩
      · cases eg
    · cases eg
  · cases eg
end BW

set_option maxRecDepth 100000
namespace BW
open PySem PySem.Spec L2
section
variable {i : Nat} {fk f : ME} {ρ : Env'} {es : List (Key × D)} {k : Key} {d : D} {ds : List D} {x : Str}
def dictR : Option D → Option D
  | some (.dct es) => some (.dct es)
  | _ => none
def dputR (i : Nat) (a : Option D) (k : Option Key) (d : Option D) (ρ : Env') : Res := match a, k, d with
  | some (.dct es), some k, some d => if es.length < 16777216 then .nx (ρ.set i (some (.dct (storeD es k d)))) else .no
  | _, _, _ => .no
def dispR : Option (List (Key × D)) → Option D
  | some ps => some (.dct (ps.foldl (fun acc p => storeD acc p.1 p.2) []))
  | none => none
def pairR : Option Key → Option D → Option (List (Key × D)) → Option (List (Key × D))
  | some k, some d, some ps => some ((k, d) :: ps)
  | _, _, _ => none
theorem q_dget : gDGet (.dct es) (.str x) = lookD es (.inr x) := rfl
theorem q_dict : eDict f ρ = dictR (f ρ) := by unfold eDict dictR; rfl
theorem q_dict_s : dictR (some (.dct es)) = some (.dct es) := rfl
theorem q_dput : sDPut i fk f ρ = dputR i (ρ[i]?).join ((fk ρ).bind keyD) (f ρ) ρ := by unfold sDPut dputR; rfl
theorem q_dput_s (c : es.length < 16777216) : dputR i (some (.dct es)) (some k) (some d) ρ = .nx (ρ.set i (some (.dct (storeD es k d)))) := if_pos c
theorem q_disp {fs : List (ME × ME)} : eDisp fs ρ = dispR (pairsD fs ρ) := by unfold eDisp; cases pairsD fs ρ <;> rfl
theorem q_disp_s {ps : List (Key × D)} : dispR (some ps) = some (.dct (ps.foldl (fun acc p => storeD acc p.1 p.2) [])) := rfl
theorem q_pairs_nil : pairsD [] ρ = some [] := rfl
theorem q_pairs {r : List (ME × ME)} : pairsD ((fk, f) :: r) ρ = pairR ((fk ρ).bind keyD) (f ρ) (pairsD r ρ) := by
  conv => lhs; unfold pairsD
  unfold pairR
  rfl
theorem q_pair_s {ps : List (Key × D)} : pairR (some k) (some d) (some ps) = some ((k, d) :: ps) := rfl
theorem q_keyS : keyD (.str x) = some (.inr x) := rfl
theorem q_lput_s {n : Int} {j : Nat} (h : ixN ds.length n = some j) : lputR i (some (.lst ds)) (some (.int n)) (some d) ρ = .nx (ρ.set i (some (.lst (ds.set j d)))) := by
  unfold lputR
  simp only [h]
theorem ixN_in {n : Int} {m : Nat} (h0 : 0 ≤ n) (h : n < m) : ixN m n = some n.toNat := by
  unfold ixN
  rw [if_pos h0, if_pos h]
theorem eqv_str {a b : Str} (ha : PyData.strOk a = true) (hb : PyData.strOk b = true) : eqvD (.str a) (.str b) = some (a == b) := by
  unfold eqvD
  simp [ha, hb, toP, SeqAt.shaped, PyData.canLay0, PyData.depth, PyData.eqv]
end
theorem sb0 : eqvD (.str "rest") (.str "rest") = some true := by rw [eqv_str (by decide +kernel) (by decide +kernel)]; decide +kernel
theorem sb1 : eqvD (.str "rest") (.str "+") = some false := by rw [eqv_str (by decide +kernel) (by decide +kernel)]; decide +kernel
theorem sb2 : eqvD (.str "rest") (.str "-") = some false := by rw [eqv_str (by decide +kernel) (by decide +kernel)]; decide +kernel
theorem sb3 : eqvD (.str "rest") (.str "*") = some false := by rw [eqv_str (by decide +kernel) (by decide +kernel)]; decide +kernel
theorem sb4 : eqvD (.str "+") (.str "rest") = some false := by rw [eqv_str (by decide +kernel) (by decide +kernel)]; decide +kernel
theorem sb5 : eqvD (.str "+") (.str "+") = some true := by rw [eqv_str (by decide +kernel) (by decide +kernel)]; decide +kernel
theorem sb6 : eqvD (.str "+") (.str "-") = some false := by rw [eqv_str (by decide +kernel) (by decide +kernel)]; decide +kernel
theorem sb7 : eqvD (.str "+") (.str "*") = some false := by rw [eqv_str (by decide +kernel) (by decide +kernel)]; decide +kernel
theorem sb8 : eqvD (.str "-") (.str "rest") = some false := by rw [eqv_str (by decide +kernel) (by decide +kernel)]; decide +kernel
theorem sb9 : eqvD (.str "-") (.str "+") = some false := by rw [eqv_str (by decide +kernel) (by decide +kernel)]; decide +kernel
theorem sb10 : eqvD (.str "-") (.str "-") = some true := by rw [eqv_str (by decide +kernel) (by decide +kernel)]; decide +kernel
theorem sb11 : eqvD (.str "-") (.str "*") = some false := by rw [eqv_str (by decide +kernel) (by decide +kernel)]; decide +kernel
theorem sb12 : eqvD (.str "*") (.str "rest") = some false := by rw [eqv_str (by decide +kernel) (by decide +kernel)]; decide +kernel
theorem sb13 : eqvD (.str "*") (.str "+") = some false := by rw [eqv_str (by decide +kernel) (by decide +kernel)]; decide +kernel
theorem sb14 : eqvD (.str "*") (.str "-") = some false := by rw [eqv_str (by decide +kernel) (by decide +kernel)]; decide +kernel
theorem sb15 : eqvD (.str "*") (.str "*") = some true := by rw [eqv_str (by decide +kernel) (by decide +kernel)]; decide +kernel
theorem sb16 : eqvD (.str "<") (.str "<") = some true := by rw [eqv_str (by decide +kernel) (by decide +kernel)]; decide +kernel
theorem sb17 : eqvD (.str "<") (.str "<=") = some false := by rw [eqv_str (by decide +kernel) (by decide +kernel)]; decide +kernel
theorem sb18 : eqvD (.str "<") (.str "=") = some false := by rw [eqv_str (by decide +kernel) (by decide +kernel)]; decide +kernel
theorem sb19 : eqvD (.str "<") (.str "!=") = some false := by rw [eqv_str (by decide +kernel) (by decide +kernel)]; decide +kernel
theorem sb20 : eqvD (.str "<=") (.str "<") = some false := by rw [eqv_str (by decide +kernel) (by decide +kernel)]; decide +kernel
theorem sb21 : eqvD (.str "<=") (.str "<=") = some true := by rw [eqv_str (by decide +kernel) (by decide +kernel)]; decide +kernel
theorem sb22 : eqvD (.str "<=") (.str "=") = some false := by rw [eqv_str (by decide +kernel) (by decide +kernel)]; decide +kernel
theorem sb23 : eqvD (.str "<=") (.str "!=") = some false := by rw [eqv_str (by decide +kernel) (by decide +kernel)]; decide +kernel
theorem sb24 : eqvD (.str "=") (.str "<") = some false := by rw [eqv_str (by decide +kernel) (by decide +kernel)]; decide +kernel
theorem sb25 : eqvD (.str "=") (.str "<=") = some false := by rw [eqv_str (by decide +kernel) (by decide +kernel)]; decide +kernel
theorem sb26 : eqvD (.str "=") (.str "=") = some true := by rw [eqv_str (by decide +kernel) (by decide +kernel)]; decide +kernel
theorem sb27 : eqvD (.str "=") (.str "!=") = some false := by rw [eqv_str (by decide +kernel) (by decide +kernel)]; decide +kernel
theorem sb28 : eqvD (.str "!=") (.str "<") = some false := by rw [eqv_str (by decide +kernel) (by decide +kernel)]; decide +kernel
theorem sb29 : eqvD (.str "!=") (.str "<=") = some false := by rw [eqv_str (by decide +kernel) (by decide +kernel)]; decide +kernel
theorem sb30 : eqvD (.str "!=") (.str "=") = some false := by rw [eqv_str (by decide +kernel) (by decide +kernel)]; decide +kernel
theorem sb31 : eqvD (.str "!=") (.str "!=") = some true := by rw [eqv_str (by decide +kernel) (by decide +kernel)]; decide +kernel
end BW

set_option maxRecDepth 100000
namespace BW
open PySem PySem.Spec L2

/-! ### reading an item of a name's own list or dict -/
section
variable {X : Cx} {Z : Fm} {own own' L : List Nat} {pos p p1 p2 : Pos} {e k a b : Expr} {f fk f' : ME} {x : Str}
theorem de_oget {i j : Nat} (hr : Room j X.A) (hb : DE X Z own b f') (hio : i ∈ own := by decide) (hN : X.N[i]? = some x := by rfl) (hv : Vis X.env.scope x := by first | exact Or.inl rfl | exact Or.inr (Or.inl rfl) | exact Or.inr (Or.inr rfl)) (hd : (x == ("__debug__" : Str)) = false := by decide)
    (hcd : (x == ("__classdict__" : Str)) = false := by decide) (hs : NoSl b := by exact fun _ _ => rfl) : DE X Z own (.Subscript (.Name x p1) b pos) (eBin gDGet (eVar i) f') := by
  refine PE.mono (pe_dget (hu_of hr) (pe_var hN hv hd hcd) hb hs) fun σ H Q ⟨H0, ρ, r, S, e, q⟩ => ?_
  obtain ⟨d, d', e1, e2, e3⟩ := eBin_some e
  have e1' : ρ[i]? = some (some d) := join_some e1
  obtain ⟨a, g2, n0, ni, o⟩ := S.ownd i d e1' hio
  refine ⟨_, g2, tD.one S e2 fun u H2 H02 S2 gr r2 => ?_⟩
  unfold gDGet at e3
  split at e3
  · rename_i es k hk
    obtain ⟨a', g2', n0', ni', vs', o', r'⟩ := S2.ownd i _ e1' hio
    rw [g2] at g2'
    cases g2'
    obtain ⟨w, h1, h2⟩ := r'.look k r e3
    exact ⟨a, w, rfl, .inl ⟨vs', k, .inl o', keyD_rep r2 hk, h1.symm⟩, q _ _ _ gr h2⟩
  · cases e3
def gIxL : G2 := fun d e => match d, e with
  | .lst ds, .int i => atI ds i
  | _, _ => none
theorem de_oix {i : Nat} (hb : DE X Z own b f') (hio : i ∈ own := by decide) (hN : X.N[i]? = some x := by rfl) (hv : Vis X.env.scope x := by first | exact Or.inl rfl | exact Or.inr (Or.inl rfl) | exact Or.inr (Or.inr rfl)) (hd : (x == ("__debug__" : Str)) = false := by decide)
    (hcd : (x == ("__classdict__" : Str)) = false := by decide) (hs : PlainIx b := by exact fun _ _ => rfl) : DE X Z own (.Subscript (.Name x p1) b pos) (eBin gIxL (eVar i) f') := by
  refine PE.mono (pe_ix ix_list (pe_var hN hv hd hcd) hb hs) fun σ H Q ⟨H0, ρ, r, S, e, q⟩ => ?_
  obtain ⟨d, d', e1, e2, e3⟩ := eBin_some e
  have e1' : ρ[i]? = some (some d) := join_some e1
  obtain ⟨a, g2, n0, ni, o⟩ := S.ownd i d e1' hio
  refine ⟨_, g2, tD.one S e2 fun u H2 H02 S2 gr r2 => ?_⟩
  unfold gIxL at e3
  split at e3
  · rename_i ds m
    obtain ⟨a', g2', n0', ni', vs', o', r'⟩ := S2.ownd i _ e1' hio
    rw [g2] at g2'
    cases g2'
    obtain ⟨w, h1, h2⟩ := r'.at e3
    exact ⟨a, vs', m, w, rfl, r2.int_inv, SqL.of o', h1, q _ _ _ gr h2⟩
  · cases e3
/-! ### list(d), sorted(xs) -/
def kD : Key → D
  | .inl i => .int i
  | .inr x => .str x
theorem RepK.keysL {K : PySem.W.Frag} {H : Hp} : ∀ {es : List (Key × D)} {vs : List (Key × V)}, RepK K H vs es → RepL K H (vs.map fun kv => kV kv.1) (es.map fun p => kD p.1)
  | [], _, h => by cases h; exact .nil
  | (k, d) :: es, _, h => by
    cases h with
    | cons a b =>
      refine .cons ?_ (RepK.keysL b)
      cases k with
      | inl i => exact .int i
      | inr x => exact .str x
def eKeys (f : ME) : ME := fun ρ => match f ρ with
  | some (.dct es) => some (.lst (es.map fun p => kD p.1))
  | _ => none
theorem df_keys (hc : X.calm = true) (hm : X.mg "list" = none) (he : DE X Z own e f) (hg : Gl X "list" := by rfl) (hs : starEach [e] X.env = (false, eval e X.env) :: starEach [] X.env := by rfl) (hpl : (backTo pos (starEach [] X.env)).any (·.1) = false := by rfl) :
    DF X Z own (.Call (.Name "list" p) [e] [] pos) (eKeys f) := by
  refine PE.mono (pe_callTy (call_listD hc) hg hm (by decide +kernel) (pa_cons he pa_nil hs) (by decide) (by decide) hs hpl) fun σ H Q ⟨H0, ρ, r, S, e, q⟩ => ?_
  unfold eKeys at e
  split at e
  · rename_i es h1
    cases e
    refine tD.one S h1 fun v H1 H01 S1 g1 r1 => ?_
    obtain ⟨a, vs, rfl, hd, rk⟩ := r1.dct_inv
    refine ⟨a, vs, rfl, Same.rd g1.sub hd, fun l hl => ?_⟩
    have n0 : H01 l = none := Same.free g1.sub hl
    exact q l _ H01 ⟨g1.s0, g1.s.trans fun b u e => by rw [upd_ne (ne_of_none e hl)]; exact e, fun b u e => by rw [upd_ne (ne_of_none e n0)]; exact g1.sub b u e, g1.new⟩ (Same.free g1.s hl) n0 ⟨_, upd_same, rk.keysL⟩
  · cases e
def insI (x : Int) : List Int → List Int
  | [] => [x]
  | y :: r => if x ≤ y then x :: y :: r else y :: insI x r
def sortI (l : List Int) : List Int := l.foldr insI []
theorem insI_perm (x : Int) : ∀ l : List Int, (insI x l).Perm (x :: l)
  | [] => List.Perm.refl _
  | y :: r => by
    unfold insI
    split
    · exact List.Perm.refl _
    · exact ((insI_perm x r).cons y).trans (List.Perm.swap x y r)
theorem insI_sorted (x : Int) : ∀ l : List Int, l.Pairwise (· ≤ ·) → (insI x l).Pairwise (· ≤ ·)
  | [], _ => by simp [insI]
  | y :: r, h => by
    rw [List.pairwise_cons] at h
    unfold insI
    split
    · rename_i c
      rw [List.pairwise_cons]
      refine ⟨fun z hz => ?_, by rw [List.pairwise_cons]; exact h⟩
      rcases List.mem_cons.mp hz with rfl | hz
      · exact c
      · exact Int.le_trans c (h.1 z hz)
    · rename_i c
      rw [List.pairwise_cons]
      refine ⟨fun z hz => ?_, insI_sorted x r h.2⟩
      rcases List.mem_cons.mp ((insI_perm x r).mem_iff.mp hz) with rfl | hz
      · omega
      · exact h.1 z hz
theorem sortI_perm : ∀ l : List Int, (sortI l).Perm l
  | [] => List.Perm.refl _
  | x :: l => (insI_perm x (sortI l)).trans ((sortI_perm l).cons x)
theorem sortI_sorted : ∀ l : List Int, (sortI l).Pairwise (· ≤ ·)
  | [] => List.Pairwise.nil
  | x :: l => insI_sorted x _ (sortI_sorted l)
theorem perm_sorted : ∀ {l m : List Int}, l.Perm m → l.Pairwise (· ≤ ·) → m.Pairwise (· ≤ ·) → l = m := fun {l m} h a b => List.Perm.eq_of_pairwise (le := (· ≤ ·)) (fun x y _ _ h1 h2 => Int.le_antisymm h1 h2) a b h
def intsD : List D → Option (List Int)
  | [] => some []
  | .int i :: r => (intsD r).map fun xs => i :: xs
  | _ :: _ => none
theorem intsD_rep {K : PySem.W.Frag} {H : Hp} : ∀ {ds : List D} {xs : List Int} {vs : List V}, intsD ds = some xs → RepL K H vs ds → vs = xs.map V.int
  | [], _, _, e, h => by cases e; cases h; rfl
  | .int x :: r, _, _, e, h => by
    obtain ⟨ys, e1, rfl⟩ := map_some' (show (intsD r).map _ = some _ from e)
    cases h with
    | cons a b => rw [a.int_inv, intsD_rep e1 b, List.map_cons]
  | .non :: _, _, _, e, _ => by cases e
  | .bl _ :: _, _, _, e, _ => by cases e
  | .str _ :: _, _, _, e, _ => by cases e
  | .lst _ :: _, _, _, e, _ => by cases e
  | .tup _ :: _, _, _, e, _ => by cases e
  | .dct _ :: _, _, _, e, _ => by cases e
  | .ins _ _ :: _, _, _, e, _ => by cases e
theorem intsD_map : ∀ xs : List Int, intsD (xs.map D.int) = some xs
  | [] => rfl
  | x :: xs => by
    show (intsD (xs.map D.int)).map _ = _
    rw [intsD_map xs]
    rfl
def eSorted (f : ME) : ME := fun ρ => match f ρ with
  | some (.lst ds) => (intsD ds).map fun xs => .lst ((sortI xs).map .int)
  | _ => none
theorem RepL.ofInts {K : PySem.W.Frag} {H : Hp} : ∀ {xs : List Int}, RepL K H (xs.map V.int) (xs.map D.int)
  | [] => .nil
  | x :: xs => .cons (.int x) RepL.ofInts
theorem df_sorted (hm : X.mg "sorted" = none) (he : DE X Z own e f) (hg : Gl X "sorted" := by rfl) (hs : starEach [e] X.env = (false, eval e X.env) :: starEach [] X.env := by rfl) (hpl : (backTo pos (starEach [] X.env)).any (·.1) = false := by rfl) :
    DF X Z own (.Call (.Name "sorted" p) [e] [] pos) (eSorted f) := by
  refine PE.mono (pe_callB cr_sortedI hg hm (by decide +kernel) (pa_cons he pa_nil hs) (by decide) (by decide) hs hpl) fun σ H Q ⟨H0, ρ, r, S, e, q⟩ => ?_
  unfold eSorted at e
  split at e
  · rename_i ds h1
    obtain ⟨xs, h2, rfl⟩ := map_some' e
    refine tD.one S h1 fun v H1 H01 S1 g1 r1 => ?_
    obtain ⟨a, vs, rfl, hq, rl⟩ := r1.lst_inv
    have := intsD_rep h2 rl
    subst this
    refine ⟨a, xs, rfl, g1.sub.seq hq, fun ns' l hp hs hl => ?_⟩
    have : ns' = sortI xs := perm_sorted (hp.trans (sortI_perm xs).symm) hs (sortI_sorted xs)
    subst this
    have n0 : H01 l = none := Same.free g1.sub hl
    exact q l _ H01 ⟨g1.s0, g1.s.trans fun b u e => by rw [upd_ne (ne_of_none e hl)]; exact e, fun b u e => by rw [upd_ne (ne_of_none e n0)]; exact g1.sub b u e, g1.new⟩ (Same.free g1.s hl) n0 ⟨_, upd_same, RepL.ofInts⟩
  · cases e
end
end BW

set_option maxRecDepth 100000
namespace BW
open PySem PySem.Spec L2

/-! ### a walk over a dict: it stands locked -/
theorem PS.orr {X : Cx} {st : Stmt} {t t' : TS} (h : PS X st t) (h' : PS X st t') : PS X st (fun D σ H => t D σ H ∨ t' D σ H) :=
  ⟨fun pins s σ H D I q => q.elim (h.run pins s σ H D I) (h'.run pins s σ H D I)⟩
theorem PS.exx {X : Cx} {α : Type} {st : Stmt} {t : α → TS} (h : ∀ a, PS X st (t a)) : PS X st (fun D σ H => ∃ a, t a D σ H) :=
  ⟨fun pins s σ H D I ⟨a, q⟩ => (h a).run pins s σ H D I q⟩
/-- what is read the same -/
structure Lk (H H' : Hp) : Prop where
  l : ∀ a xs, Rd H a (.lst xs) → Rd H' a (.lst xs)
  t : ∀ a xs, Rd H a (.tup xs) → Rd H' a (.tup xs)
  d : ∀ a xs, Rd H a (.dK xs) → Rd H' a (.dK xs)
  n : ∀ a C dx xs, H a = some (.ins C dx xs) → H' a = some (.ins C dx xs)
mutual
theorem Rep.lk {K : PySem.W.Frag} {H H' : Hp} (e : Lk H H') : ∀ (d : D) (v : V), Rep K H v d → Rep K H' v d
  | .non, _, h => by cases h; exact .non
  | .bl b, _, h => by cases h; exact .bl b
  | .int i, _, h => by cases h; exact .int i
  | .str x, _, h => by cases h; exact .str x
  | .lst ds, _, h => by
    cases h with
    | lst a b => exact .lst (a.elim (fun a => .inl (e.l _ _ a)) .inr) (RepL.lk e ds _ b)
  | .tup ds, _, h => by
    cases h with
    | tup a b => exact .tup (a.elim (fun a => .inl (e.t _ _ a)) .inr) (RepL.lk e ds _ b)
  | .dct ds, _, h => by
    cases h with
    | dct a b => exact .dct (e.d _ _ a) (RepK.lk e ds _ b)
  | .ins C ds, _, h => by
    cases h with
    | ins a b => exact .ins (e.n _ _ _ _ a) (RepF.lk e ds _ b)
theorem RepL.lk {K : PySem.W.Frag} {H H' : Hp} (e : Lk H H') : ∀ (ds : List D) (vs : List V), RepL K H vs ds → RepL K H' vs ds
  | [], _, h => by cases h; exact .nil
  | d :: ds, _, h => by
    cases h with
    | cons a b => exact .cons (Rep.lk e d _ a) (RepL.lk e ds _ b)
theorem RepK.lk {K : PySem.W.Frag} {H H' : Hp} (e : Lk H H') : ∀ (ds : List (Key × D)) (vs : List (Key × V)), RepK K H vs ds → RepK K H' vs ds
  | [], _, h => by cases h; exact .nil
  | (k, d) :: ds, _, h => by
    cases h with
    | cons a b => exact .cons (Rep.lk e d _ a) (RepK.lk e ds _ b)
theorem RepF.lk {K : PySem.W.Frag} {H H' : Hp} (e : Lk H H') : ∀ (ds : List (Str × D)) (vs : List (Str × V)), RepF K H vs ds → RepF K H' vs ds
  | [], _, h => by cases h; exact .nil
  | (k, d) :: ds, _, h => by
    cases h with
    | cons a b => exact .cons (Rep.lk e d _ a) (RepF.lk e ds _ b)
end
theorem lk_on {Y : Hp} {a : Addr} {o : Obj} {ks : List (Key × V)} (h : Y a = some (.dK ks)) : Lk Y (upd Y a (.frz o (.dK ks))) where
  l b xs r := by
    by_cases e : b = a
    · subst e
      rcases r with r | ⟨o', r⟩ <;> rw [h] at r <;> cases r
    · rcases r with r | ⟨o', r⟩
      · exact .inl (by rw [upd_ne e]; exact r)
      · exact .inr ⟨o', by rw [upd_ne e]; exact r⟩
  t b xs r := by
    by_cases e : b = a
    · subst e
      rcases r with r | ⟨o', r⟩ <;> rw [h] at r <;> cases r
    · rcases r with r | ⟨o', r⟩
      · exact .inl (by rw [upd_ne e]; exact r)
      · exact .inr ⟨o', by rw [upd_ne e]; exact r⟩
  d b xs r := by
    by_cases e : b = a
    · subst e
      rcases r with r | ⟨o', r⟩
      · rw [h] at r; cases r; exact .inr ⟨o, upd_same⟩
      · rw [h] at r; cases r
    · rcases r with r | ⟨o', r⟩
      · exact .inl (by rw [upd_ne e]; exact r)
      · exact .inr ⟨o', by rw [upd_ne e]; exact r⟩
  n b C dx xs r := by
    by_cases e : b = a
    · subst e; rw [h] at r; cases r
    · rw [upd_ne e]; exact r
theorem lk_off {Y : Hp} {a : Addr} {o : Obj} {ks : List (Key × V)} (h : Y a = some (.frz o (.dK ks))) : Lk Y (upd Y a (.dK ks)) where
  l b xs r := by
    by_cases e : b = a
    · subst e
      rcases r with r | ⟨o', r⟩ <;> rw [h] at r <;> cases r
    · rcases r with r | ⟨o', r⟩
      · exact .inl (by rw [upd_ne e]; exact r)
      · exact .inr ⟨o', by rw [upd_ne e]; exact r⟩
  t b xs r := by
    by_cases e : b = a
    · subst e
      rcases r with r | ⟨o', r⟩ <;> rw [h] at r <;> cases r
    · rcases r with r | ⟨o', r⟩
      · exact .inl (by rw [upd_ne e]; exact r)
      · exact .inr ⟨o', by rw [upd_ne e]; exact r⟩
  d b xs r := by
    by_cases e : b = a
    · subst e
      rcases r with r | ⟨o', r⟩
      · rw [h] at r; cases r
      · rw [h] at r; cases r; exact .inl upd_same
    · rcases r with r | ⟨o', r⟩
      · exact .inl (by rw [upd_ne e]; exact r)
      · exact .inr ⟨o', by rw [upd_ne e]; exact r⟩
  n b C dx xs r := by
    by_cases e : b = a
    · subst e; rw [h] at r; cases r
    · rw [upd_ne e]; exact r
theorem same_upd {Y Y' : Hp} {a : Addr} {o : HO} (h : Same Y Y') : Same (upd Y a o) (upd Y' a o) := fun b u e => by
  by_cases hb : b = a
  · subst hb; rw [upd_same] at e ⊢; exact e
  · rw [upd_ne hb] at e ⊢; exact h b u e
/-- back: from a heap that holds what Y holds, but at a, to one that holds Y -/
theorem same_off {Y Y' : Hp} {a : Addr} {o o' : HO} (h : Same (upd Y a o) Y') (ha : ∀ u, Y a = some u → u = o') : Same Y (upd Y' a o') := fun b u e => by
  by_cases hb : b = a
  · subst hb; rw [upd_same, ha u e]
  · rw [upd_ne hb]; exact h b u (by rw [upd_ne hb]; exact e)
def Zl (Z : Fm) (a : Addr) (o : Obj) (ks : List (Key × V)) : Fm := ⟨upd Z.i a (.frz o (.dK ks)), upd Z.z a (.frz o (.dK ks))⟩
theorem Hs.on {Z : Fm} {H0 H : Hp} {a : Addr} {o : Obj} {ks : List (Key × V)} (h : Hs Z H0 H) : Hs (Zl Z a o ks) (upd H0 a (.frz o (.dK ks))) (upd H a (.frz o (.dK ks))) where
  z := same_upd h.z
  i := same_upd h.i
  s := same_upd h.s
  x p hp := by
    by_cases e : p = a
    · subst e; left; show upd Z.z p _ p ≠ none; rw [upd_same]; exact fun z => nomatch z
    · rw [upd_ne e] at hp
      rcases h.x p hp with q | q
      · left; show upd Z.z a _ p ≠ none; rw [upd_ne e]; exact q
      · right; show upd Z.i a _ p = none; rw [upd_ne e]; exact q
/-- at the end of the walk -/
theorem Hs.off {Z : Fm} {H0 H H0' H' : Hp} {a : Addr} {o : Obj} {ks : List (Key × V)} (h : Hs Z H0 H) (h0 : H0 a = some (.dK ks)) (h' : Hs (Zl Z a o ks) H0' H') :
    H0' a = some (.frz o (.dK ks)) ∧ H' a = some (.frz o (.dK ks)) ∧ Hs Z (upd H0' a (.dK ks)) (upd H' a (.dK ks)) := by
  have e0 : H0' a = some (.frz o (.dK ks)) := h'.z a _ upd_same
  have hH : H a = some (.dK ks) := h.s a _ h0
  refine ⟨e0, h'.s a _ e0, ⟨same_off h'.z fun u e => ?_, same_off h'.i fun u e => ?_, same_upd h'.s, fun p hp => ?_⟩⟩
  · have := h.z a u e; rw [h0] at this; cases this; rfl
  · have := h.i a u e; rw [hH] at this; cases this; rfl
  · by_cases e : p = a
    · subst e; exact h.x p (by rw [h0]; exact fun z => nomatch z)
    · rw [upd_ne e] at hp
      rcases h'.x p hp with q | q
      · left; intro z; exact q (by show upd Z.z a _ p = none; rw [upd_ne e]; exact z)
      · right
        have : upd Z.i a (.frz o (.dK ks)) p = none := q
        rw [upd_ne e] at this; exact this
theorem OwnAt.lk {K : PySem.W.Frag} {H0 H H0' H' : Hp} {p : Addr} (e : Lk H0 H0') (s : ∀ o, H p = Option.some o → H' p = Option.some o) : ∀ {d : D}, OwnAt K H0 H p d → OwnAt K H0' H' p d
  | .lst _, ⟨vs, q, r⟩ => ⟨vs, s _ q, RepL.lk e _ _ r⟩
  | .dct _, ⟨vs, q, r⟩ => ⟨vs, s _ q, RepK.lk e _ _ r⟩
  | .non, h => h.elim
  | .bl _, h => h.elim
  | .int _, h => h.elim
  | .str _, h => h.elim
  | .tup _, h => h.elim
  | .ins _ _, h => h.elim
theorem SR.on {K : PySem.W.Frag} {Z : Fm} {own : List Nat} {σ : St} {H0 H : Hp} {ρ : Env'} {a : Addr} {o : Obj} {ks : List (Key × V)} (S : SR K Z own σ H0 H ρ) (h0 : H0 a = some (.dK ks)) :
    SR K (Zl Z a o ks) own σ (upd H0 a (.frz o (.dK ks))) (upd H a (.frz o (.dK ks))) ρ := by
  refine ⟨S.len, S.hs.on, fun i d e n => ?_, fun i d e n => ?_, S.apart⟩
  · obtain ⟨v, q, r⟩ := S.shr i d e n
    exact ⟨v, q, Rep.lk (lk_on h0) _ _ r⟩
  · obtain ⟨p, q, n0, ni, oo⟩ := S.ownd i d e n
    have hp : p ≠ a := fun z => by rw [z, h0] at n0; cases n0
    refine ⟨p, q, by rw [upd_ne hp]; exact n0, by show upd Z.i a _ p = none; rw [upd_ne hp]; exact ni, OwnAt.lk (lk_on h0) (fun u e => by rw [upd_ne hp]; exact e) oo⟩
theorem SR.off {K : PySem.W.Frag} {Z : Fm} {own own' : List Nat} {σ σ' : St} {H0 H H0' H' : Hp} {ρ ρ' : Env'} {a : Addr} {o : Obj} {ks : List (Key × V)} (S : SR K Z own σ H0 H ρ) (h0 : H0 a = some (.dK ks)) (S' : SR K (Zl Z a o ks) own' σ' H0' H' ρ') :
    SR K Z own' σ' (upd H0' a (.dK ks)) (upd H' a (.dK ks)) ρ' := by
  obtain ⟨e0, e1, hs⟩ := S.hs.off h0 S'.hs
  refine ⟨S'.len, hs, fun i d e n => ?_, fun i d e n => ?_, S'.apart⟩
  · obtain ⟨v, q, r⟩ := S'.shr i d e n
    exact ⟨v, q, Rep.lk (lk_off e0) _ _ r⟩
  · obtain ⟨p, q, n0, ni, oo⟩ := S'.ownd i d e n
    have hp : p ≠ a := fun z => by rw [z, e0] at n0; cases n0
    have ni' : upd Z.i a (.frz o (.dK ks)) p = none := ni
    rw [upd_ne hp] at ni'
    exact ⟨p, q, by rw [upd_ne hp]; exact n0, ni', OwnAt.lk (lk_off e0) (fun u e => by rw [upd_ne hp]; exact e) oo⟩
/-- the ends while it stands locked -/
def lkE (a : Addr) (o : Obj) (u : HO) (D : Ends) : Ends := ⟨fun σ' H' => H' a = some (.frz o u) ∧ D.nx σ' (upd H' a u), fun v H' => H' a = some (.frz o u) ∧ D.rt v (upd H' a u), fun σ' H' => H' a = some (.frz o u) ∧ D.bk σ' (upd H' a u), fun σ' H' => H' a = some (.frz o u) ∧ D.ct σ' (upd H' a u)⟩
theorem Post.on {K : PySem.W.Frag} {Z : Fm} {L own own' : List Nat} {σ : St} {H0 H : Hp} {ρ : Env'} {Dn : Ends} {a : Addr} {o : Obj} {ks : List (Key × V)} (S : SR K Z own σ H0 H ρ) (h0 : H0 a = some (.dK ks)) {r : Res} (p : Post K Z L own' H0 Dn r) :
    Post K (Zl Z a o ks) L own' (upd H0 a (.frz o (.dK ks))) (lkE a o (.dK ks) Dn) r := by
  have back : ∀ {H0' : Hp}, Same (upd H0 a (.frz o (.dK ks))) H0' → Same H0 (upd H0' a (.dK ks)) := fun s => same_off s fun u e => by rw [h0] at e; cases e; rfl
  cases r with
  | nx ρ' => exact fun σ' H' H0' S' s => ⟨(S.hs.off h0 S'.hs).2.1, p σ' _ _ (S.off h0 S') (back s)⟩
  | rt d =>
    refine fun v H' H0' hs' r => ⟨(S.hs.off h0 hs').2.1, p v _ _ (S.hs.off h0 hs').2.2 ?_⟩
    have e0 := (S.hs.off h0 hs').1
    revert r
    cases frl L with
    | false => exact fun r => Rep.lk (lk_off e0) _ _ r
    | true =>
      rintro (⟨e1, e2⟩ | ⟨q, e1, n0, ni, oo⟩)
      · exact .inl ⟨e1, e2⟩
      · have hq : q ≠ a := fun z => by rw [z, e0] at n0; cases n0
        have ni' : upd Z.i a (.frz o (.dK ks)) q = none := ni
        rw [upd_ne hq] at ni'
        exact .inr ⟨q, e1, by rw [upd_ne hq]; exact n0, ni', OwnAt.lk (lk_off e0) (fun u e => by rw [upd_ne hq]; exact e) oo⟩
  | bk ρ' => exact fun σ' H' H0' S' s => ⟨(S.hs.off h0 S'.hs).2.1, p σ' _ _ (S.off h0 S') (back s)⟩
  | ct ρ' => exact fun σ' H' H0' S' s => ⟨(S.hs.off h0 S'.hs).2.1, p σ' _ _ (S.off h0 S') (back s)⟩
  | no => exact p
section
variable {X : Cx} {Z : Fm} {own own' L : List Nat} {pos p1 : Pos} {tg e : Expr} {g : MG} {m : MS} {ss : List Nat} {x : Str} {i : Nat}
theorem kD_rep {K : PySem.W.Frag} {H : Hp} (k : Key) : Rep K H (kV k) (kD k) := by
  cases k with
  | inl i => exact .int i
  | inr x => exact .str x
/-- what a locked walk wants -/
def tWalk (K : PySem.W.Frag) (Z : Fm) (L own : List Nat) (i : Nat) (g : MG) (m : MS) : TS := fun Dn σ H => ∃ H0 ρ a o ks es, SR K Z own σ H0 H ρ ∧ σ[i]? = some (some (V.ref a)) ∧ H0 a = some (.frz o (.dK ks)) ∧ RepK K H0 ks es ∧ Post K Z L own H0 Dn (forD g m (es.map fun p => kD p.1) ρ)
theorem ps_walk {body : List Stmt} (hp : PassesOwn (model X.prog X.w) X.A X.env X.xe) (hc : X.calm = true) (hg : DG X Z own tg ss g) (hb : DSs X Z own own own body m) (hN : X.N[i]? = some x) (hv : Vis X.env.scope x) (hd : (x == ("__debug__" : Str)) = false) (hcd : (x == ("__classdict__" : Str)) = false)
    (hs : ∀ y, foldedSetIterable (.Name x p1) X.env y = pure y := by intro _; rfl) (hfl : frl own = frl L) : PS X (.For tg (.Name x p1) body [] pos) (tWalk X.K Z L own i g m) := by
  refine PS.mono (ps_for hp hc (pi_keys (pe_var hN hv hd hcd)) hg hb hs) fun Dn σ H ⟨H0, ρ, a, o, ks, es, S, e1, h0, rk, q⟩ => ?_
  refine ⟨_, e1, a, o, rfl, .inl ⟨ks, S.hs.s a _ h0, ?_⟩⟩
  have hl' : (es.map fun p => kD p.1).length = ks.length := by rw [List.length_map, rk.length]
  have hks : ∀ (i : Nat) d, (es.map fun p => kD p.1)[i]? = some d → ∃ k v, ks[i]? = some (k, v) ∧ d = kD k := fun i d hd => by
    have e := congrArg (fun l => (l.map kD)[i]?) rk.keys
    simp only [List.map_map] at e
    rw [show (es.map fun p => kD p.1) = es.map (kD ∘ fun p => p.1) from rfl] at hd
    rw [hd, List.getElem?_map] at e
    cases h : ks[i]? with
    | none => rw [h] at e; cases e
    | some kv => rw [h] at e; exact ⟨kv.1, kv.2, rfl, (Option.some.inj e).symm⟩
  refine ⟨fun i k σ H => k = (es.map fun p => kD p.1).length - i ∧ i ≤ (es.map fun p => kD p.1).length ∧ ∃ H02 ρ2, SR X.K Z own σ H02 H ρ2 ∧ Same H0 H02 ∧ Post X.K Z L own H0 Dn (forD g m ((es.map fun p => kD p.1).drop i) ρ2), ⟨_, rfl, Nat.zero_le _, H0, ρ, S, Same.refl _, by rw [List.drop_zero]; exact q⟩, ?_⟩
  rintro i k σ2 H2 ⟨rfl, hi, H02, ρ2, S2, s2, q2⟩
  have fz : H2 a = some (.frz o (.dK ks)) := S2.hs.s a _ (s2 a _ h0)
  by_cases hl : i < (es.map fun p => kD p.1).length
  · right
    have hd : (es.map fun p => kD p.1)[i]? = some (es.map fun p => kD p.1)[i] := List.getElem?_eq_getElem hl
    obtain ⟨k, v, hk, ed⟩ := hks i _ hd
    rw [List.drop_eq_getElem_cons hl] at q2
    unfold forD at q2
    refine ⟨⟨fz, by rw [← hl']; exact hl⟩, fun σ' H' => ∃ H03 ρ3, SR X.K Z own σ' H03 H' ρ3 ∧ Same H0 H03 ∧ Post X.K Z L own H0 Dn (forD g m ((es.map fun p => kD p.1).drop (i + 1)) ρ3), fun σ' H' ⟨H03, ρ3, S3, s3, q3⟩ => ⟨(es.map fun p => kD p.1).length - (i + 1), by omega, rfl, hl, H03, ρ3, S3, s3, q3⟩, fun y H3 hy => ?_⟩
    obtain ⟨rfl, k', v', hk', rfl⟩ := hy
    rw [hk] at hk'
    cases hk'
    cases h2 : g (es.map fun p => kD p.1)[i] ρ2 with
    | none => rw [h2] at q2; exact q2.elim
    | some ρ3 =>
      rw [h2] at q2
      refine ⟨H02, ρ2, (es.map fun p => kD p.1)[i], ρ3, S2, by rw [ed]; exact kD_rep k, h2, fun σ4 S4 _ => ⟨H02, ρ3, S4, ?_⟩⟩
      cases h3 : m ρ3 with
      | nx ρ4 =>
        simp only [h3] at q2
        exact fun σ5 H5 H05 S5 s5 => ⟨H05, ρ4, S5, s2.trans s5, q2⟩
      | ct ρ4 =>
        simp only [h3] at q2
        exact fun σ5 H5 H05 S5 s5 => ⟨H05, ρ4, S5, s2.trans s5, q2⟩
      | bk ρ4 =>
        simp only [h3] at q2
        exact fun σ5 H5 H05 S5 s5 => q2 σ5 H5 H05 S5 (s2.trans s5)
      | rt d =>
        simp only [h3] at q2
        exact fun v5 H5 H05 hs5 r5 => q2 v5 H5 H05 hs5 (by rw [← hfl]; exact r5)
      | no =>
        simp only [h3] at q2
        exact q2.elim
  · left
    have e : i = (es.map fun p => kD p.1).length := by omega
    subst e
    rw [List.drop_length] at q2
    exact ⟨⟨fz, by rw [← hl']; exact Nat.le_refl _⟩, q2 σ2 H2 H02 S2 s2⟩
def iKeysD (f : ME) : MA := fun ρ => match f ρ with
  | some (.dct es) => some (es.map fun p => kD p.1)
  | _ => none
/-- for k in d, d a name's dict -/
theorem ds_walk (i : Nat) {body : List Stmt} (hp : PassesOwn (model X.prog X.w) X.A X.env X.xe) (hc : X.calm = true) (hg : ∀ Z, DG X Z own tg ss g) (hb : ∀ Z, DSs X Z own own own body m) (hio : i ∉ own := by decide) (hN : X.N[i]? = some x := by rfl) (hv : Vis X.env.scope x := by first | exact Or.inl rfl | exact Or.inr (Or.inl rfl) | exact Or.inr (Or.inr rfl)) (hd : (x == ("__debug__" : Str)) = false := by decide)
    (hcd : (x == ("__classdict__" : Str)) = false := by decide) (hs : ∀ y, foldedSetIterable (.Name x p1) X.env y = pure y := by intro _; rfl) (hfl : frl own = frl L := by rfl) : DS X Z L own own (.For tg (.Name x p1) body [] pos) (sFor (iKeysD (eVar i)) g m) := by
  refine PS.mono (PS.orr (ps_walk (L := L) hp hc (hg Z) (hb Z) hN hv hd hcd hs hfl) (ps_lock (PS.exx fun Z' => ps_walk (L := L) hp hc (hg Z') (hb Z') hN hv hd hcd hs hfl))) fun Dn σ H ⟨H0, ρ, S, q⟩ => ?_
  unfold sFor at q
  split at q
  · rename_i ds h1
    unfold iKeysD at h1
    split at h1
    · rename_i es h2
      cases h1
      have e1 : ρ[i]? = some (some (.dct es)) := join_some h2
      obtain ⟨v, e2, r⟩ := S.shr i _ e1 hio
      obtain ⟨a, ks, rfl, rd, rk⟩ := r.dct_inv
      rcases rd with h0 | ⟨o, h0⟩
      · right
        exact ⟨a, .dK ks, S.hs.s a _ h0, trivial, fun od => ⟨Zl Z a od ks, _, ρ, a, od, ks, es, S.on h0, e2, upd_same, RepK.lk (lk_on h0) _ _ rk, Post.on S h0 q⟩⟩
      · left
        exact ⟨H0, ρ, a, o, ks, es, S, e2, h0, rk, q⟩
    · cases h1
  · exact q.elim
end
end BW

set_option maxRecDepth 100000
namespace BW
open PySem PySem.Spec L2 RZ
/-! ### zip of two lists or two tuples -/
def zipD (as bs : List D) : List D := (as.zip bs).map fun p => .tup [p.1, p.2]
def iZipD (fs : MA) : MA := fun ρ => match fs ρ with
  | some [.lst as, .lst bs] => some (zipD as bs)
  | some [.tup as, .tup bs] => some (zipD as bs)
  | _ => none
theorem zipD_get {as bs : List D} {i : Nat} {d : D} (h : (zipD as bs)[i]? = some d) : ∃ a b, as[i]? = some a ∧ bs[i]? = some b ∧ d = .tup [a, b] := by
  unfold zipD at h
  rw [List.getElem?_map] at h
  obtain ⟨p, h1, rfl⟩ := map_some' h
  obtain ⟨h2, h3⟩ := List.getElem?_zip_eq_some.mp h1
  exact ⟨p.1, p.2, h2, h3, rfl⟩
theorem zipD_len {as bs : List D} : (zipD as bs).length = min as.length bs.length := by
  unfold zipD
  rw [List.length_map, List.length_zip]
theorem Rep.inj_tup2 {K : PySem.W.Frag} {H : Hp} {T : Addr} {x y : V} {a b : D} (r : Rep K H x a) (r' : Rep K H y b) : RepL K H [x, y] [a, b] := .cons r (.cons r' .nil)
section
variable {X : Cx} {Z : Fm} {own own' L : List Nat} {pos p tpos : Pos} {e e2 : Expr} {fs : MA} {elts : List Expr} {kk : Nat}
theorem di_zip (hm : X.mg "zip" = none) (ha : DA X Z own [e, e2] fs) (hg : Gl X "zip" := by rfl)
    (hs : starEach [e, e2] X.env = (false, eval e X.env) :: starEach [e2] X.env := by rfl) (hpl : (backTo pos (starEach [e2] X.env)).any (·.1) = false := by rfl) :
    DI X Z own (.Tuple elts kk tpos) (.Call (.Name "zip" p) [e, e2] [] pos) (iZipD fs) := by
  refine PI.mono (pi_zipA hg hm ha.pa hs hpl) fun σ H R ⟨H0, ρ, ds, S, e, q⟩ => ?_
  unfold iZipD at e
  split at e
  · rename_i as bs h1
    cases e
    refine ⟨H0, ρ, _, S, h1, fun vs H1 H01 g1 r1 => ?_⟩
    cases r1 with
    | cons ra rr =>
      cases rr with
      | cons rb rr =>
        cases rr
        obtain ⟨a, xs, rfl, hq, rl⟩ := ra.lst_inv
        obtain ⟨b, ys, rfl, hq', rl'⟩ := rb.lst_inv
        refine ⟨a, b, xs, ys, rfl, .inl ⟨g1.sub.seq hq, g1.sub.seq hq', q _ _ _ g1 fun i H2 H02 s s2 => ⟨fun d hd => ?_, fun hl => ⟨xs, ys, s2.seq (s.seq hq), s2.seq (s.seq hq'), ?_⟩, fun d x H3 hd hy => ?_⟩⟩⟩
        · obtain ⟨d1, d2, h2, h3, rfl⟩ := zipD_get hd
          obtain ⟨w, hw, _⟩ := rl.get h2
          obtain ⟨w', hw', _⟩ := rl'.get h3
          exact ⟨xs, ys, w, w', s2.seq (s.seq hq), s2.seq (s.seq hq'), hw, hw'⟩
        · rw [zipD_len] at hl
          rw [rl.length, rl'.length]
          omega
        · obtain ⟨d1, d2, h2, h3, rfl⟩ := zipD_get hd
          obtain ⟨T, x', y', rfl, hT, rfl, k1, k2⟩ := hy
          obtain ⟨w, hw, rw'⟩ := rl.get h2
          obtain ⟨w', hw', rw2⟩ := rl'.get h3
          have e1 : w = x' := Option.some.inj (hw.symm.trans (k1 _ (s2.seq (s.seq hq))))
          have e2 : w' = y' := Option.some.inj (hw'.symm.trans (k2 _ (s2.seq (s.seq hq'))))
          subst e1
          subst e2
          have g4 := Grow.laid (o := .tup [w, w']) s2 hT
          exact ⟨_, g4, .tup (SqT.of upd_same) (.cons ((rw'.up s).up g4.s0) (.cons ((rw2.up s).up g4.s0) .nil))⟩
  · rename_i as bs h1
    cases e
    refine ⟨H0, ρ, _, S, h1, fun vs H1 H01 g1 r1 => ?_⟩
    cases r1 with
    | cons ra rr =>
      cases rr with
      | cons rb rr =>
        cases rr
        obtain ⟨a, xs, rfl, hq, rl⟩ := ra.tup_inv
        obtain ⟨b, ys, rfl, hq', rl'⟩ := rb.tup_inv
        refine ⟨a, b, xs, ys, rfl, .inr ⟨Same.seqT g1.sub hq, Same.seqT g1.sub hq', q _ _ _ g1 fun i H2 H02 s s2 => ⟨fun d hd => ?_, fun hl => ⟨xs, ys, Same.seqT s2 (Same.seqT s hq), Same.seqT s2 (Same.seqT s hq'), ?_⟩, fun d x H3 hd hy => ?_⟩⟩⟩
        · obtain ⟨d1, d2, h2, h3, rfl⟩ := zipD_get hd
          obtain ⟨w, hw, _⟩ := rl.get h2
          obtain ⟨w', hw', _⟩ := rl'.get h3
          exact ⟨xs, ys, w, w', Same.seqT s2 (Same.seqT s hq), Same.seqT s2 (Same.seqT s hq'), hw, hw'⟩
        · rw [zipD_len] at hl
          rw [rl.length, rl'.length]
          omega
        · obtain ⟨d1, d2, h2, h3, rfl⟩ := zipD_get hd
          obtain ⟨T, x', y', rfl, hT, rfl, k1, k2⟩ := hy
          obtain ⟨w, hw, rw'⟩ := rl.get h2
          obtain ⟨w', hw', rw2⟩ := rl'.get h3
          have e1 : w = x' := Option.some.inj (hw.symm.trans (k1 _ (Same.seqT s2 (Same.seqT s hq))))
          have e2 : w' = y' := Option.some.inj (hw'.symm.trans (k2 _ (Same.seqT s2 (Same.seqT s hq'))))
          subst e1
          subst e2
          have g4 := Grow.laid (o := .tup [w, w']) s2 hT
          exact ⟨_, g4, .tup (SqT.of upd_same) (.cons ((rw'.up s).up g4.s0) (.cons ((rw2.up s).up g4.s0) .nil))⟩
  · cases e
end
end BW

set_option maxRecDepth 100000
namespace BW
open PySem PySem.Spec L2
/-! ### dicts compared, their values without dicts -/
def hitsD (b : List (Key × D)) : List (Key × D) → Option Bool
  | [] => some true
  | (k, d) :: r => match lookD b k with
    | none => some false
    | some d' => (match eqvD d d', hitsD b r with
      | some e, some x => some (e && x)
      | _, _ => none)
def dictD (a b : List (Key × D)) : Option Bool := if a.length = b.length then hitsD b a else some false
theorem hits_rep {X : Cx} {pins : List (Addr × Obj)} {σ : St} {H : Hp} {s : Shared} {A : Around} (I : Inv X pins σ H s) (hu : A.units + 64 < cLine) {ls : List (Key × V)} {vb : List (Key × Value)} {b : List (Key × D)} (rb : KV ls vb) (Rl : RepK X.K H ls b) :
    ∀ {a : List (Key × D)} {ks : List (Key × V)} {va : List (Key × Value)} {r : Bool}, RepK X.K H ks a → KV ks va → hitsD b a = some r → PySem.W.KeqHits A s vb va r
  | [], _, _, _, h, kv, e => by
    cases h
    unfold KV at kv
    cases kv
    cases e
    exact .nil
  | (k, d) :: a, _, _, r, h, kv, e => by
    cases h with
    | @cons _ w ws _ _ h1 h2 =>
      unfold KV at kv
      cases kv with
      | @cons _ q _ qs hq t =>
        obtain ⟨key, v⟩ := q
        obtain ⟨k1, k2⟩ := hq
        have k1' : k = key := k1
        subst k1'
        unfold hitsD at e
        cases hl : lookD b k with
        | none =>
          simp only [hl] at e
          cases e
          have hn := Rl.look_none k hl
          have rr : RelO (valV ls k) (valueAt vb k) := rb.val k
          rw [hn] at rr
          have : valueAt vb k = none := by
            cases hv : valueAt vb k with
            | none => rfl
            | some y => rw [hv] at rr; exact rr.elim
          exact .miss this
        | some d' =>
          simp only [hl] at e
          cases he : eqvD d d' with
          | none => simp only [he] at e; cases e
          | some x =>
            cases hr : hitsD b a with
            | none => simp only [he, hr] at e; cases e
            | some z =>
              simp only [he, hr] at e
              cases e
              obtain ⟨u, h3, h4⟩ := Rl.look k d' hl
              have rr : RelO (some u) (valueAt vb k) := by rw [← h3]; exact rb.val k
              obtain ⟨y, hy, ry⟩ := rr.some_of
              obtain ⟨p, p', t1, t2, t3, t4, rfl⟩ := eqvD_some he
              obtain ⟨as, r1⟩ := Dp.reads I p w v (Rep.dp d _ _ h1 t1) k2
              obtain ⟨bs, r2⟩ := Dp.reads I p' u y (Rep.dp d' _ _ h4 t2) ry
              exact .hit hy (SeqAt.eqAt_reads p p' A s v y as bs r1 r2 (SeqAt.canLay_of_shaped t3) (SeqAt.canLay_of_shaped t4) (SeqAt.room_of_shaped t3 hu)) (hits_rep I hu rb Rl h2 t hr)
section
variable {X : Cx}
def rDD2 (K : PySem.W.Frag) (f : Bool → Bool) : R2 := fun x y H Q => ∃ a b ks ls da db r, x = .ref a ∧ y = .ref b ∧ Rd H a (.dK ks) ∧ Rd H b (.dK ls) ∧ RepK K H ks da ∧ RepK K H ls db ∧ dictD da db = some r ∧ Q (.bl (f r)) H
theorem dict_hits {pins : List (Addr × Obj)} {σ : St} {H : Hp} {s : Shared} (I : Inv X pins σ H s) (hu : X.A.units + 65 < cLine) {ks ls : List (Key × V)} {va vb : List (Key × Value)} {da db : List (Key × D)} {r : Bool} (ra : KV ks va) (rb : KV ls vb) (ka : RepK X.K H ks da) (kb : RepK X.K H ls db) (e : dictD da db = some r) :
    ∃ z, (va.length = vb.length → PySem.W.KeqHits X.A.in1 s vb va z) ∧ (va.length == vb.length && z) = r := by
  have h1 : va.length = da.length := by rw [← ra.length, ka.length]
  have h2 : vb.length = db.length := by rw [← rb.length, kb.length]
  unfold dictD at e
  split at e
  · rename_i hl
    exact ⟨r, fun _ => hits_rep I (show X.A.units + 1 + 64 < cLine by omega) rb kb ka ra e, by rw [h1, h2, hl]; simp⟩
  · rename_i hl
    cases e
    exact ⟨false, fun z => absurd (by rw [← h1, ← h2]; exact z) hl, by simp⟩
theorem op_eqDD (hu : X.A.units + 65 < cLine) : OpR X (compareOp .Eq) (rDD2 X.K id) := by
  intro pins s σ H x y v u Q I rx ry h
  obtain ⟨a, b, ks, ls, da, db, r, rfl, rfl, ha, hb, ka, kb, e, q⟩ := h
  obtain rfl : v = Value.ref a := rx
  obtain rfl : u = Value.ref b := ry
  obtain ⟨_, ya, va, ra, dda⟩ := dk_rd I.hok ha
  obtain ⟨_, yb, vb, rb, ddb⟩ := dk_rd I.hok hb
  obtain ⟨z, hz, ez⟩ := dict_hits I hu ra rb ka kb e
  exact PySem.W.keq_eq (knd := mixKind X.prog X.w) (r := z) ya yb dda ddb (by omega) hz (by rw [ez]; exact ⟨.bl r, H, I, rfl, q⟩)
theorem op_neDD (hu : X.A.units + 65 < cLine) : OpR X (compareOp .NotEq) (rDD2 X.K not) := by
  intro pins s σ H x y v u Q I rx ry h
  obtain ⟨a, b, ks, ls, da, db, r, rfl, rfl, ha, hb, ka, kb, e, q⟩ := h
  obtain rfl : v = Value.ref a := rx
  obtain rfl : u = Value.ref b := ry
  obtain ⟨_, ya, va, ra, dda⟩ := dk_rd I.hok ha
  obtain ⟨_, yb, vb, rb, ddb⟩ := dk_rd I.hok hb
  obtain ⟨z, hz, ez⟩ := dict_hits I hu ra rb ka kb e
  exact PySem.W.keq_ne (knd := mixKind X.prog X.w) (r := z) ya yb dda ddb (by omega) hz (by rw [ez]; exact ⟨.bl (!r), H, I, rfl, q⟩)
def gEqDD : G2 := fun d e => match d, e with
  | .dct a, .dct b => (dictD a b).map .bl
  | _, _ => none
def gNeDD : G2 := fun d e => match d, e with
  | .dct a, .dct b => (dictD a b).map fun r => .bl (!r)
  | _, _ => none
theorem dop_eqDD {k : Nat} (hr : Room k X.A) : DOp X (compareOp .Eq) gEqDD := by
  refine OpR.imp (op_eqDD (by have := hr.un; omega)) fun x y H Q ⟨H0, d, e, r, s, rx, ry, eg, q⟩ => ?_
  unfold gEqDD at eg
  split at eg
  · rename_i a b
    obtain ⟨r, e1, rfl⟩ := map_some' eg
    obtain ⟨p, vs, rfl, hd, rk⟩ := (rx.up s).dct_inv
    obtain ⟨p', vs', rfl, hd', rk'⟩ := (ry.up s).dct_inv
    exact ⟨p, p', vs, vs', a, b, r, rfl, rfl, hd, hd', rk, rk', e1, q _ _ _ (Grow.refl s) (.bl _)⟩
  · cases eg
theorem dop_neDD {k : Nat} (hr : Room k X.A) : DOp X (compareOp .NotEq) gNeDD := by
  refine OpR.imp (op_neDD (by have := hr.un; omega)) fun x y H Q ⟨H0, d, e, r, s, rx, ry, eg, q⟩ => ?_
  unfold gNeDD at eg
  split at eg
  · rename_i a b
    obtain ⟨r, e1, rfl⟩ := map_some' eg
    obtain ⟨p, vs, rfl, hd, rk⟩ := (rx.up s).dct_inv
    obtain ⟨p', vs', rfl, hd', rk'⟩ := (ry.up s).dct_inv
    exact ⟨p, p', vs, vs', a, b, r, rfl, rfl, hd, hd', rk, rk', e1, q _ _ _ (Grow.refl s) (.bl _)⟩
  · cases eg
/-- a dict and its like -/
theorem hits_self (b : List (Key × D)) : ∀ a : List (Key × D), (∀ p ∈ a, ∃ d, lookD b p.1 = some d ∧ eqvD p.2 d = some true) → hitsD b a = some true
  | [], _ => rfl
  | (k, d) :: a, h => by
    obtain ⟨d', h1, h2⟩ := h (k, d) List.mem_cons_self
    unfold hitsD
    simp only [h1, h2, hits_self b a fun p hp => h p (List.mem_cons_of_mem _ hp)]
    rfl
end
end BW

set_option maxRecDepth 100000
namespace BW
open PySem PySem.Spec L2
section
variable {f : ME} {fs : MA} {ρ : Env'} {es : List (Key × D)} {k : Key} {d e : D} {as bs ds : List D}
def zipR : Option (List D) → Option (List D)
  | some [.lst as, .lst bs] => some (zipD as bs)
  | some [.tup as, .tup bs] => some (zipD as bs)
  | _ => none
def sortedR : Option D → Option D
  | some (.lst ds) => (intsD ds).map fun xs => .lst ((sortI xs).map .int)
  | _ => none
def ikR : Option D → Option (List D)
  | some (.dct es) => some (es.map fun p => kD p.1)
  | _ => none
def keysR : Option D → Option D
  | some (.dct es) => some (.lst (es.map fun p => kD p.1))
  | _ => none
theorem q_zip : iZipD fs ρ = zipR (fs ρ) := by unfold iZipD zipR; rfl
theorem q_zip_t : zipR (some [.tup as, .tup bs]) = some (zipD as bs) := rfl
theorem q_zip_l : zipR (some [.lst as, .lst bs]) = some (zipD as bs) := rfl
theorem zipD_cons : zipD (d :: as) (e :: bs) = .tup [d, e] :: zipD as bs := rfl
theorem zipD_nil : zipD [] bs = [] := rfl
theorem q_sorted : eSorted f ρ = sortedR (f ρ) := by unfold eSorted sortedR; rfl
theorem q_sorted_s : sortedR (some (.lst ds)) = (intsD ds).map fun xs => .lst ((sortI xs).map .int) := rfl
theorem q_ik : iKeysD f ρ = ikR (f ρ) := by unfold iKeysD ikR; rfl
theorem q_ik_s : ikR (some (.dct es)) = some (es.map fun p => kD p.1) := rfl
theorem q_keys : eKeys f ρ = keysR (f ρ) := by unfold eKeys keysR; rfl
theorem q_keys_s : keysR (some (.dct es)) = some (.lst (es.map fun p => kD p.1)) := rfl
theorem gget : gDGet (.dct es) (kD k) = lookD es k := by cases k <;> rfl
theorem keyD_kD : keyD (kD k) = some k := by cases k <;> rfl
theorem q_ixOwn {i : Int} : gIxL (.lst ds) (.int i) = atI ds i := rfl
theorem q_addT (h1 : as ≠ []) (h2 : bs ≠ []) (h3 : as.length + bs.length ≤ 16777216) : gAdd (.tup as) (.tup bs) = some (.tup (as ++ bs)) := if_pos ⟨h1, h2, h3⟩
theorem q_addT22 {a b c d : D} : gAdd (.tup [a, b]) (.tup [c, d]) = some (.tup [a, b, c, d]) := q_addT (by simp) (by simp) (by simp)
theorem q_eqDD {as bs : List (Key × D)} : gEqDD (.dct as) (.dct bs) = (dictD as bs).map .bl := rfl
theorem q_neDD {as bs : List (Key × D)} : gNeDD (.dct as) (.dct bs) = (dictD as bs).map fun r => .bl (!r) := rfl
theorem intsD4 {a b c d : Int} : intsD [.int a, .int b, .int c, .int d] = some [a, b, c, d] := rfl
theorem dictD_self (es : List (Key × D)) (h : ∀ p ∈ es, ∃ d, lookD es p.1 = some d ∧ eqvD p.2 d = some true) : dictD es es = some true := by
  unfold dictD
  rw [if_pos rfl]
  exact hits_self es es h
end
end BW

set_option maxRecDepth 100000
namespace BW
open PySem PySem.Spec L2
/-! ### in a dict, d.get(k, x) -/
theorem look_some {K : PySem.W.Frag} {H : Hp} {es : List (Key × D)} {vs : List (Key × V)} (r : RepK K H vs es) (k : Key) : (valV vs k).isSome = (lookD es k).isSome := by
  cases h : lookD es k with
  | none => rw [r.look_none k h]; rfl
  | some d =>
    obtain ⟨v, h1, _⟩ := r.look k d h
    rw [h1]
    rfl
def gDIn : G2 := fun d e => match keyD d, e with
  | some k, .dct es => some (.bl (lookD es k).isSome)
  | _, _ => none
def gDNotIn : G2 := fun d e => match keyD d, e with
  | some k, .dct es => some (.bl (!(lookD es k).isSome))
  | _, _ => none
section
variable {X : Cx} {Z : Fm} {own own' L : List Nat} {pos p p1 p2 : Pos} {e k a b c : Expr} {f fk f' f'' : ME} {x : Str} {j : Nat}
theorem tD.din {K : PySem.W.Frag} {σ : St} {H : Hp} {Q : VK} (h : tD K Z own (eBin gDIn f f') σ H Q) : tDIn (tD K Z own f) (tD K Z own f') σ H Q := by
  obtain ⟨H0, ρ, r, S, e, q⟩ := h
  obtain ⟨d, d', e1, e2, e3⟩ := eBin_some e
  unfold gDIn at e3
  split at e3
  · rename_i k es hk
    cases e3
    refine tD.one S e1 fun u H1 H01 S1 g1 r1 => tD.one S1 e2 fun v H2 H02 S2 g2 r2 => ?_
    obtain ⟨p, vs, rfl, hd, rk⟩ := r2.dct_inv
    exact ⟨p, _, rfl, .inl ⟨vs, k, Same.rd S2.hs.s hd, keyD_rep r1 hk, rfl⟩, by rw [look_some rk]; exact q _ _ _ (g1.trans g2) (.bl _)⟩
  · cases e3
theorem tD.dnotin {K : PySem.W.Frag} {σ : St} {H : Hp} {Q : VK} (h : tD K Z own (eBin gDNotIn f f') σ H Q) : tDNotIn (tD K Z own f) (tD K Z own f') σ H Q := by
  obtain ⟨H0, ρ, r, S, e, q⟩ := h
  obtain ⟨d, d', e1, e2, e3⟩ := eBin_some e
  unfold gDNotIn at e3
  split at e3
  · rename_i k es hk
    cases e3
    refine tD.one S e1 fun u H1 H01 S1 g1 r1 => tD.one S1 e2 fun v H2 H02 S2 g2 r2 => ?_
    obtain ⟨p, vs, rfl, hd, rk⟩ := r2.dct_inv
    exact ⟨p, _, rfl, .inl ⟨vs, k, Same.rd S2.hs.s hd, keyD_rep r1 hk, rfl⟩, by rw [look_some rk]; exact q _ _ _ (g1.trans g2) (.bl _)⟩
  · cases e3
theorem de_din (hr : Room j X.A) (ha : DE X Z own a f) (hb : DE X Z own b f') (hm : behindInMarks .In b = false := by rfl) : DE X Z own (.Compare a [.In] [b] pos) (eBin gDIn f f') :=
  PE.mono (pe_cmp (pc_din (hu_of hr) ha hb) hm) fun σ H Q h => h.din
theorem de_dnotin (hr : Room j X.A) (ha : DE X Z own a f) (hb : DE X Z own b f') (hm : behindInMarks .NotIn b = false := by rfl) : DE X Z own (.Compare a [.NotIn] [b] pos) (eBin gDNotIn f f') :=
  PE.mono (pe_cmp (pc_dnotin (hu_of hr) ha hb) hm) fun σ H Q h => h.dnotin
theorem tB'.ofD {K : PySem.W.Frag} {σ : St} {H : Hp} {Q : Bool → Hp → Prop} (h : tB' K Z own (bOf f) σ H Q) : tD K Z own f σ H (fun v H' => ∃ b, v = .bl b ∧ Q b H') := by
  obtain ⟨H0, ρ, b, S, e, q⟩ := h
  exact ⟨H0, ρ, _, S, bOf_some e, fun v H' H0' g r => ⟨b, r.bl_inv, q _ _ g⟩⟩
theorem dt_din (hr : Room j X.A) (ha : DE X Z own a f) (hb : DE X Z own b f') (hm : behindInMarks .In b = false := by rfl) : DT X Z own (.Compare a [.In] [b] pos) (bOf (eBin gDIn f f')) :=
  PT.mono (pt_cmp (pc_din (hu_of hr) ha hb) hm) fun σ H Q h => (tB'.ofD h).din
theorem dt_dnotin (hr : Room j X.A) (ha : DE X Z own a f) (hb : DE X Z own b f') (hm : behindInMarks .NotIn b = false := by rfl) : DT X Z own (.Compare a [.NotIn] [b] pos) (bOf (eBin gDNotIn f f')) :=
  PT.mono (pt_cmp (pc_dnotin (hu_of hr) ha hb) hm) fun σ H Q h => (tB'.ofD h).dnotin
/-- d.get(k, x) -/
def eGet2 (f f' f'' : ME) : ME := fun ρ => match f ρ, (f' ρ).bind keyD, f'' ρ with
  | some (.dct es), some k, some d => some ((lookD es k).getD d)
  | _, _, _ => none
theorem de_get2 (hr : Room j X.A) (ha : DE X Z own a f) (hb : DE X Z own b f') (hc : DE X Z own c f'') (m : M2 X a "get" p2 b c pos := by exact ⟨rfl, rfl, rfl, rfl⟩) : DE X Z own (.Call (.Attribute a "get" p2) [b, c] [] pos) (eGet2 f f' f'') := by
  refine PE.mono (pe_dget2 (hu_of hr) ha hb hc m) fun σ H Q ⟨H0, ρ, r, S, e, q⟩ => ?_
  unfold eGet2 at e
  split at e
  · rename_i es k d h1 h2 h3
    cases e
    cases hk : f' ρ with
    | none => rw [hk] at h2; cases h2
    | some dk =>
      rw [hk] at h2
      refine tD.one S h1 fun v H1 H01 S1 g1 r1 => ?_
      obtain ⟨p, vs, rfl, hd, rk⟩ := r1.dct_inv
      refine ⟨p, rfl, .inl ⟨vs, Same.rd S1.hs.s hd⟩, tD.one S1 hk fun u H2 H02 S2 g2 r2 => tD.one S2 h3 fun z H3 H03 S3 g3 r3 => ?_⟩
      have hd3 := Same.rd S3.hs.s (Same.rd (g2.trans g3).s0 hd)
      refine ⟨_, .inl ⟨vs, k, hd3, keyD_rep r2 h2, rfl⟩, ?_⟩
      have gg := (g1.trans g2).trans g3
      cases hl : lookD es k with
      | none =>
        rw [rk.look_none k hl]
        rw [hl] at q
        exact q _ _ _ gg r3
      | some d' =>
        obtain ⟨w, h4, h5⟩ := rk.look k d' hl
        rw [h4]
        rw [hl] at q
        exact q _ _ _ gg (h5.up (g2.trans g3).s0)
  · cases e
def get2R : Option D → Option Key → Option D → Option D
  | some (.dct es), some k, some d => some ((lookD es k).getD d)
  | _, _, _ => none
theorem q_get2 {ρ : Env'} : eGet2 f f' f'' ρ = get2R (f ρ) ((f' ρ).bind keyD) (f'' ρ) := by unfold eGet2 get2R; rfl
theorem q_get2_s {es : List (Key × D)} {k : Key} {d : D} : get2R (some (.dct es)) (some k) (some d) = some ((lookD es k).getD d) := rfl
theorem q_din {es : List (Key × D)} {k : Key} : gDIn (kD k) (.dct es) = some (.bl (lookD es k).isSome) := by cases k <;> rfl
theorem q_dinS {es : List (Key × D)} {x : Str} : gDIn (.str x) (.dct es) = some (.bl (lookD es (.inr x)).isSome) := rfl
theorem q_dinI {es : List (Key × D)} {i : Int} : gDIn (.int i) (.dct es) = some (.bl (lookD es (.inl i)).isSome) := rfl
theorem q_dninS {es : List (Key × D)} {x : Str} : gDNotIn (.str x) (.dct es) = some (.bl (!(lookD es (.inr x)).isSome)) := rfl
end
end BW

set_option maxRecDepth 100000
namespace BW
open PySem PySem.Spec L2
/-! ### [.. for k in d ..], d a name's dict -/
theorem PE.orr {X : Cx} {e : Expr} {t t' : TE} (h : PE X e t) (h' : PE X e t') : PE X e (fun σ H Q => t σ H Q ∨ t' σ H Q) :=
  ⟨fun pins s σ H Q I q => q.elim (h.run pins s σ H Q I) (h'.run pins s σ H Q I)⟩
theorem PE.exx {X : Cx} {α : Type} {e : Expr} {t : α → TE} (h : ∀ a, PE X e (t a)) : PE X e (fun σ H Q => ∃ a, t a σ H Q) :=
  ⟨fun pins s σ H Q I ⟨a, q⟩ => (h a).run pins s σ H Q I q⟩
theorem comp_core {K : PySem.W.Frag} {Z : Fm} {own : List Nat} {ss vs : List Nat} {g : MG} {p : MB} {f : ME} {σ : St} {H H0 : Hp} {ρ : Env'} {Q : VK} {ds xs : List D} (hss : ∀ i ∈ ss, i ∈ vs) (S : SR K Z own σ H0 H ρ) (hsz : ds.length ≤ 16777216) (e2 : compD g p f (wipeD ρ vs) ds = some xs)
    (q : ∀ p H' H0', Grow H0 H H0' H' → H p = none → H0' p = none → OwnAt K H0' H' p (.lst xs) → Q (.ref p) H') (J : It) (H1 H01 : Hp) (g1 : Grow H0 H H01 H1)
    (hJ : ∀ i H2 H02, Same H01 H02 → Same H02 H2 → (∀ d, ds[i]? = some d → J.go i H2) ∧ (ds.length ≤ i → J.stop i H2) ∧ (∀ d x H3, ds[i]? = some d → J.yld i H2 x H3 → ∃ H03, Grow H02 H2 H03 H3 ∧ Rep K H03 x d)) :
    tLc (fun _ _ R => R J H1) (tDG K Z own ss g) (tB' K Z own p) (tD K Z own f) vs σ H Q := by
  intro D hD
  have hD0 : H D = none := Same.free g1.s hD
  have hD1 : H01 D = none := Same.free g1.sub hD
  have hDi : Z.i D = none := Same.free S.hs.i hD0
  have ap : ∀ i d q, i ∈ own → (wipeD ρ vs)[i]? = some (some d) → (wipe σ vs)[i]? = some (some (V.ref q)) → q ≠ D := fun i d q hi e3 e4 => by
    obtain ⟨h, e3⟩ := wipeD_get ρ vs i d e3
    rw [wipe_get, if_neg h] at e4
    obtain ⟨q', e5, _, _, o⟩ := S.ownd i d e3 hi
    rw [e4] at e5
    cases e5
    rintro rfl
    exact o.some hD0
  have gr1 : Grow H0 H H01 (upd H1 D (.lst [])) := ⟨g1.s0, g1.s.trans fun b u e => by rw [upd_ne (ne_of_none e hD)]; exact e, fun b u e => by rw [upd_ne (ne_of_none e hD1)]; exact g1.sub b u e, g1.new⟩
  refine ⟨fun i k H2 => k = ds.length - i ∧ i ≤ ds.length ∧ ∃ H02 acc as rest, SR K Z own (wipe σ vs) H02 H2 (wipeD ρ vs) ∧ Same H01 H02 ∧ H02 D = none ∧ H2 D = some (.lst acc) ∧ RepL K H02 acc as ∧ as.length ≤ i ∧ compD g p f (wipeD ρ vs) (ds.drop i) = some rest ∧ as ++ rest = xs ∧ Grow H0 H H02 H2,
    ⟨_, rfl, Nat.zero_le _, H01, [], [], xs, (((S.grow g1).wipe vs).side hD1 hDi ap), Same.refl _, hD1, upd_same, .nil, Nat.zero_le _, by rw [List.drop_zero]; exact e2, rfl, gr1⟩, ?_⟩
  rintro i k H2 ⟨rfl, hi, H02, acc, as, rest, S2, s2, n2, a2, r2, l2, c2, x2, g2⟩
  by_cases hl : i < ds.length
  · right
    obtain ⟨j1, _, j3⟩ := hJ i H2 H02 s2 S2.hs.s
    have hd : ds[i]? = some ds[i] := List.getElem?_eq_getElem hl
    rw [List.drop_eq_getElem_cons hl] at c2
    unfold compD at c2
    refine ⟨j1 _ hd, fun H' => ∃ H03 acc as rest, SR K Z own (wipe σ vs) H03 H' (wipeD ρ vs) ∧ Same H01 H03 ∧ H03 D = none ∧ H' D = some (.lst acc) ∧ RepL K H03 acc as ∧ as.length ≤ i + 1 ∧ compD g p f (wipeD ρ vs) (ds.drop (i + 1)) = some rest ∧ as ++ rest = xs ∧ Grow H0 H H03 H',
      fun H' ⟨H03, acc, as, rest, w⟩ => ⟨ds.length - (i + 1), by omega, rfl, hl, H03, acc, as, rest, w⟩, fun x H3 hy => ?_⟩
    obtain ⟨H03, g3, r3⟩ := j3 _ x H3 hd hy
    have S3 := S2.grow g3
    have sD : ∀ {H0' H' : Hp}, Grow H02 H2 H0' H' → H0' D = none ∧ H' D = some (.lst acc) := fun {H0' H'} gg => ⟨gg.new D (by rw [a2]; exact fun z => nomatch z) n2, gg.s D _ a2⟩
    cases h2 : g ds[i] (wipeD ρ vs) with
    | none => rw [h2] at c2; cases c2
    | some ρ1 =>
      rw [h2] at c2
      refine ⟨H03, wipeD ρ vs, ds[i], ρ1, S3, r3, h2, fun σ4 S4 A4 => ⟨wipe_agree A4 hss, ?_⟩⟩
      cases h3 : p ρ1 with
      | none => simp only [h3] at c2; cases c2
      | some b =>
        simp only [h3] at c2
        refine tB'.one S4 h3 fun H5 H05 S5 g5 => ?_
        cases b with
        | false =>
          rw [if_neg Bool.false_ne_true]
          have gg := g3.trans g5
          exact ⟨H05, acc, as, rest, S2.grow gg, s2.trans gg.s0, (sD gg).1, (sD gg).2, r2.up gg.s0, Nat.le_succ_of_le l2, c2, x2, g2.trans gg⟩
        | true =>
          rw [if_pos rfl]
          cases h4 : f ρ1 with
          | none => simp only [h4] at c2; cases c2
          | some y =>
            simp only [h4] at c2
            obtain ⟨rest', c3, rfl⟩ := map_some' c2
            refine tD.one S5 h4 fun v H6 H06 S6 g6 r6 => ?_
            have gg := (g3.trans g5).trans g6
            refine ⟨acc, (sD gg).2, ?_, H06, acc ++ [v], as ++ [y], rest', (S2.grow gg).side (sD gg).1 hDi ap, s2.trans gg.s0, (sD gg).1, upd_same, (r2.up gg.s0).append (.cons r6 .nil), by rw [List.length_append]; simp only [List.length_cons, List.length_nil]; omega, c3, by rw [← x2]; simp, ?_⟩
            · rw [r2.length, szl]; omega
            · have g7 := g2.trans gg
              exact ⟨g7.s0, fun b u e => by rw [upd_ne (ne_of_none e hD0)]; exact g7.s b u e, fun b u e => by rw [upd_ne (ne_of_none e (sD gg).1)]; exact g7.sub b u e, g7.new⟩
  · left
    have e : i = ds.length := by omega
    subst e
    rw [List.drop_length] at c2
    cases c2
    rw [List.append_nil] at x2
    subst x2
    obtain ⟨_, j2, _⟩ := hJ ds.length H2 H02 s2 S2.hs.s
    exact ⟨j2 (Nat.le_refl _), q D H2 H02 g2 hD0 n2 ⟨acc, a2, r2⟩⟩
/-- the walk over a dict that stands locked -/
def tLcK (K : PySem.W.Frag) (Z : Fm) (own : List Nat) (i : Nat) (g : MG) (p : MB) (f : ME) (vs : List Nat) : TE := fun σ H Q => ∃ H0 ρ a o ks es xs, SR K Z own σ H0 H ρ ∧ σ[i]? = some (some (V.ref a)) ∧ H0 a = some (.frz o (.dK ks)) ∧ RepK K H0 ks es ∧ es.length ≤ 16777216 ∧
  compD g p f (wipeD ρ vs) (es.map fun p => kD p.1) = some xs ∧ ∀ p H' H0', Grow H0 H H0' H' → H p = none → H0' p = none → OwnAt K H0' H' p (.lst xs) → Q (.ref p) H'
theorem tLcK_run {K : PySem.W.Frag} {Z : Fm} {own : List Nat} {i : Nat} {ss vs : List Nat} {g : MG} {p : MB} {f : ME} {σ : St} {H : Hp} {Q : VK} (hss : ∀ i ∈ ss, i ∈ vs) (h : tLcK K Z own i g p f vs σ H Q) : tLc (iKeys (tVar i)) (tDG K Z own ss g) (tB' K Z own p) (tD K Z own f) vs σ H Q := by
  obtain ⟨H0, ρ, a, o, ks, es, xs, S, e1, h0, rk, hsz, e2, q⟩ := h
  have hks : ∀ (i : Nat) d, (es.map fun p => kD p.1)[i]? = some d → ∃ k v, ks[i]? = some (k, v) ∧ d = kD k := fun i d hd => by
    have e := congrArg (fun l => (l.map kD)[i]?) rk.keys
    simp only [List.map_map] at e
    rw [show (es.map fun p => kD p.1) = es.map (kD ∘ fun p => p.1) from rfl] at hd
    rw [hd, List.getElem?_map] at e
    cases h : ks[i]? with
    | none => rw [h] at e; cases e
    | some kv => rw [h] at e; exact ⟨kv.1, kv.2, rfl, (Option.some.inj e).symm⟩
  have hl' : (es.map fun p => kD p.1).length = ks.length := by rw [List.length_map, rk.length]
  refine ⟨_, e1, a, o, rfl, .inl ⟨ks, S.hs.s a _ h0, ?_⟩⟩
  refine comp_core hss S (by rw [List.length_map]; exact hsz) e2 q (Itk a o ks) H H0 (Grow.refl S.hs.s) fun i H2 H02 s s2 => ?_
  have fz : H2 a = some (.frz o (.dK ks)) := s2 a _ (s a _ h0)
  refine ⟨fun d hd => ?_, fun hl => ⟨fz, by rw [← hl']; exact hl⟩, fun d x H3 hd hy => ?_⟩
  · obtain ⟨k, v, hk, _⟩ := hks i d hd
    refine ⟨fz, ?_⟩
    rcases Nat.lt_or_ge i ks.length with z | z
    · exact z
    · rw [List.getElem?_eq_none z] at hk; cases hk
  · obtain ⟨k, v, hk, rfl⟩ := hks i d hd
    obtain ⟨rfl, k', v', hk', rfl⟩ := hy
    rw [hk] at hk'
    cases hk'
    exact ⟨H02, Grow.refl s2, kD_rep k⟩
theorem Grow.off {H0 H H0' H' : Hp} {a : Addr} {o : Obj} {ks : List (Key × V)} (h0 : H0 a = some (.dK ks)) (hH : H a = some (.dK ks)) (g : Grow (upd H0 a (.frz o (.dK ks))) (upd H a (.frz o (.dK ks))) H0' H') : Grow H0 H (upd H0' a (.dK ks)) (upd H' a (.dK ks)) where
  s0 := same_off g.s0 fun u e => by rw [h0] at e; cases e; rfl
  s := same_off g.s fun u e => by rw [hH] at e; cases e; rfl
  sub := same_upd g.sub
  new p h1 h2 := by
    have hp : p ≠ a := fun z => by rw [z, h0] at h2; cases h2
    rw [upd_ne hp]
    exact g.new p (by rw [upd_ne hp]; exact h1) (by rw [upd_ne hp]; exact h2)
/-- what is wanted of a comprehension over a name's dict, in its two ways: it stands locked, or it is to be locked -/
theorem tF.compK {K : PySem.W.Frag} {Z : Fm} {own : List Nat} {i : Nat} {vs : List Nat} {g : MG} {p : MB} {f : ME} {σ : St} {H : Hp} {Q : VK} (hio : i ∉ own) (h : tF K Z own (eComp (iKeysD (eVar i)) g p f vs) σ H Q) :
    tLcK K Z own i g p f vs σ H Q ∨ tLockE (fun σ H Q => ∃ Z', tLcK K Z' own i g p f vs σ H Q) σ H Q := by
  obtain ⟨H0, ρ, d, S, e, q⟩ := h
  unfold eComp at e
  split at e
  · rename_i ds h1
    unfold iKeysD at h1
    split at h1
    · rename_i es h2
      cases h1
      split at e
      · rename_i hsz
        rw [List.length_map] at hsz
        obtain ⟨xs, e2, rfl⟩ := map_some' e
        have e1 : ρ[i]? = some (some (.dct es)) := join_some h2
        obtain ⟨v, e3, r⟩ := S.shr i _ e1 hio
        obtain ⟨a, ks, rfl, rd, rk⟩ := r.dct_inv
        rcases rd with h0 | ⟨o, h0⟩
        · right
          have hH : H a = some (.dK ks) := S.hs.s a _ h0
          refine ⟨a, .dK ks, hH, trivial, fun od => ⟨Zl Z a od ks, _, ρ, a, od, ks, es, xs, S.on h0, e3, upd_same, RepK.lk (lk_on h0) _ _ rk, hsz, e2, fun p H' H0' g n1 n2 oo => ?_⟩⟩
          have k0 : H0' a = some (.frz od (.dK ks)) := g.s0 a _ upd_same
          have k1 : H' a = some (.frz od (.dK ks)) := g.s a _ upd_same
          have hp : p ≠ a := fun z => by rw [z, k0] at n2; cases n2
          rw [upd_ne hp] at n1
          exact ⟨k1, q p _ _ (Grow.off h0 hH g) n1 (by rw [upd_ne hp]; exact n2) (OwnAt.lk (lk_off k0) (fun u e => by rw [upd_ne hp]; exact e) oo)⟩
        · left
          exact ⟨H0, ρ, a, o, ks, es, xs, S, e3, h0, rk, hsz, e2, q⟩
      · cases e
    · cases h1
  · cases e
theorem df_lcK {X : Cx} {Z : Fm} {own : List Nat} {elt tg : Expr} {ifs : List Expr} {scope : Scope} (names : List (Str × Nat)) {pos p1 : Pos} {x : Str} (i : Nat) {ss : List Nat} {g : MG} {p : MB} {f : ME} (hc : X.calm = true) (hN : X.N.Nodup) (ok : BlkOk X.N X.env.scope scope names)
    (hg : ∀ (Z : Fm) (s : Shared) (H : Hp) (C : Addr) (cl : List (Str × Addr)) (fp : List Addr), DG (X.blk s H scope (compEnvC scope cl C X.env) fp) Z own tg ss g) (ht : ∀ (Z : Fm) (s : Shared) (H : Hp) (C : Addr) (cl : List (Str × Addr)) (fp : List Addr), DTs (X.blk s H scope (compEnvC scope cl C X.env) fp) Z own ifs p)
    (he : ∀ (Z : Fm) (s : Shared) (H : Hp) (C : Addr) (cl : List (Str × Addr)) (fp : List Addr), DE (X.blk s H scope (compEnvC scope cl C X.env) fp) Z own elt f) (hss : ∀ i ∈ ss, i ∈ names.map (·.2) := by decide) (hio : i ∉ own := by decide) (hNi : X.N[i]? = some x := by rfl) (hv : Vis X.env.scope x := by first | exact Or.inl rfl | exact Or.inr (Or.inl rfl) | exact Or.inr (Or.inr rfl)) (hd : (x == ("__debug__" : Str)) = false := by decide)
    (hcd : (x == ("__classdict__" : Str)) = false := by decide) (hs : ∀ y, foldedSetIterable (.Name x p1) X.env y = pure y := by intro _; rfl) :
    DF X Z own (.ListComp elt [⟨tg, .Name x p1, ifs, 0⟩] scope pos) (eComp (iKeysD (eVar i)) g p f (names.map (·.2))) := by
  have one : ∀ Z', PE X (.ListComp elt [⟨tg, .Name x p1, ifs, 0⟩] scope pos) (tLcK X.K Z' own i g p f (names.map (·.2))) := fun Z' =>
    PE.mono (pe_lc (g := tDG X.K Z' own ss g) (tt := tB' X.K Z' own p) (te := tD X.K Z' own f) hc hN (pi_keys (pe_var hNi hv hd hcd)) ok (hg Z') (ht Z') (he Z') hs) fun σ H Q h => tLcK_run hss h
  exact PE.mono (PE.orr (one Z) (pe_lock (PE.exx one))) fun σ H Q h => h.compK hio
end BW

set_option maxRecDepth 100000
namespace BW
open PySem PySem.Spec L2
theorem ps_lcFK {X : Cx} {Z : Fm} {own : List Nat} {i : Nat} {y : Str} {py p1 : Pos} {elt tg : Expr} {ifs : List Expr} {scope : Scope} (names : List (Str × Nat)) {pos spos : Pos} {x : Str} (j : Nat) {ss : List Nat} {g : MG} {p : MB} {f : ME} (hc : X.calm = true) (hN : X.N.Nodup) (ok : BlkOk X.N X.env.scope scope names)
    (hg : ∀ (Z : Fm) (s : Shared) (H : Hp) (C : Addr) (cl : List (Str × Addr)) (fp : List Addr), DG (X.blk s H scope (compEnvC scope cl C X.env) fp) Z own tg ss g) (ht : ∀ (Z : Fm) (s : Shared) (H : Hp) (C : Addr) (cl : List (Str × Addr)) (fp : List Addr), DTs (X.blk s H scope (compEnvC scope cl C X.env) fp) Z own ifs p)
    (he : ∀ (Z : Fm) (s : Shared) (H : Hp) (C : Addr) (cl : List (Str × Addr)) (fp : List Addr), DE (X.blk s H scope (compEnvC scope cl C X.env) fp) Z own elt f) (hsw : swapsWith (.ListComp elt [⟨tg, .Name x p1, ifs, 0⟩] scope pos) (some (.Name y py)) spos.line X.env = pure true) (hyl : X.env.scope.names.lookup y = some .local := by rfl) (hy : X.N[i]? = some y := by rfl)
    (hss : ∀ i ∈ ss, i ∈ names.map (·.2) := by decide) (hio : j ∉ own := by decide) (hNi : X.N[j]? = some x := by rfl) (hv : Vis X.env.scope x := by first | exact Or.inl rfl | exact Or.inr (Or.inl rfl) | exact Or.inr (Or.inr rfl)) (hd : (x == ("__debug__" : Str)) = false := by decide)
    (hcd : (x == ("__classdict__" : Str)) = false := by decide) (hs : ∀ y, foldedSetIterable (.Name x p1) X.env y = pure y := by intro _; rfl) :
    PS X (.Assign [.Name y py] (.ListComp elt [⟨tg, .Name x p1, ifs, 0⟩] scope pos) spos) (tAsg (tF X.K Z own (eComp (iKeysD (eVar j)) g p f (names.map (·.2)))) (gName i)) := by
  have one : ∀ Z', PS X (.Assign [.Name y py] (.ListComp elt [⟨tg, .Name x p1, ifs, 0⟩] scope pos) spos) (tAsg (tLcK X.K Z' own j g p f (names.map (·.2))) (gName i)) := fun Z' =>
    PSet_mono (ps_setLc (g := tDG X.K Z' own ss g) (tt := tB' X.K Z' own p) (te := tD X.K Z' own f) hc hN hy hyl hsw (pi_keys (pe_var hNi hv hd hcd)) ok (hg Z') (ht Z') (he Z') hs) fun σ H Q h => tLcK_run hss h
  exact PS.mono (PS.orr (one Z) (ps_lock (PS.exx one))) fun D σ H h => (tF.compK hio h).elim .inl .inr
end BW

set_option maxRecDepth 100000
namespace BW
open PySem PySem.Spec L2
/-! ### for k, v in d.items(), d a name's dict -/
theorem RepK.get {K : PySem.W.Frag} {H : Hp} : ∀ {es : List (Key × D)} {vs : List (Key × V)} {i : Nat} {p : Key × D}, RepK K H vs es → es[i]? = some p → ∃ v, vs[i]? = some (p.1, v) ∧ Rep K H v p.2
  | [], _, i, p, h, e => by simp at e
  | (k, d) :: es, _, 0, p, h, e => by
    cases h with
    | cons a b =>
      simp only [List.getElem?_cons_zero, Option.some.injEq] at e
      subst e
      exact ⟨_, rfl, a⟩
  | (k, d) :: es, _, i + 1, p, h, e => by
    cases h with
    | cons a b =>
      rw [List.getElem?_cons_succ] at e
      obtain ⟨v, h1, h2⟩ := RepK.get b e
      exact ⟨v, by rw [List.getElem?_cons_succ]; exact h1, h2⟩
def itD (p : Key × D) : D := .tup [kD p.1, p.2]
def iItemsD (f : ME) : MA := fun ρ => match f ρ with
  | some (.dct es) => some (es.map itD)
  | _ => none
section
variable {X : Cx} {Z : Fm} {own own' L : List Nat} {pos p1 p2 p3 tpos : Pos} {e : Expr} {g : MG} {m : MS} {ss : List Nat} {x : Str} {i : Nat} {elts : List Expr} {kk : Nat}
def tWalkI (K : PySem.W.Frag) (Z : Fm) (L own : List Nat) (i : Nat) (g : MG) (m : MS) : TS := fun Dn σ H => ∃ H0 ρ a o ks es, SR K Z own σ H0 H ρ ∧ σ[i]? = some (some (V.ref a)) ∧ H0 a = some (.frz o (.dK ks)) ∧ RepK K H0 ks es ∧ Post K Z L own H0 Dn (forD g m (es.map itD) ρ)
theorem ps_walkI {body : List Stmt} (hp : PassesOwn (model X.prog X.w) X.A X.env X.xe) (hc : X.calm = true) (hg : DG X Z own (.Tuple elts kk tpos) ss g) (hb : DSs X Z own own own body m) (hN : X.N[i]? = some x) (hv : Vis X.env.scope x) (hd : (x == ("__debug__" : Str)) = false) (hcd : (x == ("__classdict__" : Str)) = false)
    (hbase : attributeBase (.Name x p1) "items" X.env (eval (.Name x p1) X.env) = eval (.Name x p1) X.env) (hline : (p2.endLine == p3.line) = true)
    (hs : ∀ y, foldedSetIterable (.Call (.Attribute (.Name x p1) "items" p2) [] [] p3) X.env y = pure y) (hfl : frl own = frl L) : PS X (.For (.Tuple elts kk tpos) (.Call (.Attribute (.Name x p1) "items" p2) [] [] p3) body [] pos) (tWalkI X.K Z L own i g m) := by
  refine PS.mono (ps_for hp hc (pi_items (pe_var hN hv hd hcd) hbase hline) hg hb hs) fun Dn σ H ⟨H0, ρ, a, o, ks, es, S, e1, h0, rk, q⟩ => ?_
  refine ⟨_, e1, a, o, ks, rfl, S.hs.s a _ h0, ?_⟩
  have hl' : (es.map itD).length = ks.length := by rw [List.length_map, rk.length]
  refine ⟨fun i k σ H => k = (es.map itD).length - i ∧ i ≤ (es.map itD).length ∧ ∃ H02 ρ2, SR X.K Z own σ H02 H ρ2 ∧ Same H0 H02 ∧ Post X.K Z L own H0 Dn (forD g m ((es.map itD).drop i) ρ2), ⟨_, rfl, Nat.zero_le _, H0, ρ, S, Same.refl _, by rw [List.drop_zero]; exact q⟩, ?_⟩
  rintro i k σ2 H2 ⟨rfl, hi, H02, ρ2, S2, s2, q2⟩
  have fz : H2 a = some (.frz o (.dK ks)) := S2.hs.s a _ (s2 a _ h0)
  by_cases hl : i < (es.map itD).length
  · right
    have hle : i < es.length := by rwa [List.length_map] at hl
    have hd : es[i]? = some es[i] := List.getElem?_eq_getElem hle
    obtain ⟨v, hk, hr⟩ := rk.get hd
    have ed : (es.map itD)[i] = itD es[i] := by rw [List.getElem_map]
    rw [List.drop_eq_getElem_cons hl] at q2
    unfold forD at q2
    refine ⟨⟨fz, by rw [← hl']; exact hl⟩, fun σ' H' => ∃ H03 ρ3, SR X.K Z own σ' H03 H' ρ3 ∧ Same H0 H03 ∧ Post X.K Z L own H0 Dn (forD g m ((es.map itD).drop (i + 1)) ρ3), fun σ' H' ⟨H03, ρ3, S3, s3, q3⟩ => ⟨(es.map itD).length - (i + 1), by omega, rfl, hl, H03, ρ3, S3, s3, q3⟩, fun y H3 hy => ?_⟩
    obtain ⟨T, k', v', hk', rfl, hT, rfl⟩ := hy
    rw [hk] at hk'
    cases hk'
    have g3 := Grow.laid (o := .tup [kV es[i].1, v]) S2.hs.s hT
    have S3 := S2.grow g3
    have s03 := s2.trans g3.s0
    cases h2 : g (es.map itD)[i] ρ2 with
    | none => rw [h2] at q2; exact q2.elim
    | some ρ3 =>
      rw [h2] at q2
      refine ⟨_, ρ2, (es.map itD)[i], ρ3, S3, by rw [ed]; exact .tup (SqT.of upd_same) (.cons (kD_rep _) (.cons (hr.up s03) .nil)), h2, fun σ4 S4 _ => ⟨_, ρ3, S4, ?_⟩⟩
      cases h3 : m ρ3 with
      | nx ρ4 =>
        simp only [h3] at q2
        exact fun σ5 H5 H05 S5 s5 => ⟨H05, ρ4, S5, s03.trans s5, q2⟩
      | ct ρ4 =>
        simp only [h3] at q2
        exact fun σ5 H5 H05 S5 s5 => ⟨H05, ρ4, S5, s03.trans s5, q2⟩
      | bk ρ4 =>
        simp only [h3] at q2
        exact fun σ5 H5 H05 S5 s5 => q2 σ5 H5 H05 S5 (s03.trans s5)
      | rt d =>
        simp only [h3] at q2
        exact fun v5 H5 H05 hs5 r5 => q2 v5 H5 H05 hs5 (by rw [← hfl]; exact r5)
      | no =>
        simp only [h3] at q2
        exact q2.elim
  · left
    have e : i = (es.map itD).length := by omega
    subst e
    rw [List.drop_length] at q2
    exact ⟨⟨fz, by rw [← hl']; exact Nat.le_refl _⟩, q2 σ2 H2 H02 S2 s2⟩
theorem ds_walkI (i : Nat) {body : List Stmt} (hp : PassesOwn (model X.prog X.w) X.A X.env X.xe) (hc : X.calm = true) (hg : ∀ Z, DG X Z own (.Tuple elts kk tpos) ss g) (hb : ∀ Z, DSs X Z own own own body m) (hio : i ∉ own := by decide) (hN : X.N[i]? = some x := by rfl) (hv : Vis X.env.scope x := by first | exact Or.inl rfl | exact Or.inr (Or.inl rfl) | exact Or.inr (Or.inr rfl)) (hd : (x == ("__debug__" : Str)) = false := by decide)
    (hcd : (x == ("__classdict__" : Str)) = false := by decide) (hbase : attributeBase (.Name x p1) "items" X.env (eval (.Name x p1) X.env) = eval (.Name x p1) X.env := by rfl) (hline : (p2.endLine == p3.line) = true := by rfl)
    (hs : ∀ y, foldedSetIterable (.Call (.Attribute (.Name x p1) "items" p2) [] [] p3) X.env y = pure y := by intro _; rfl) (hfl : frl own = frl L := by rfl) : DS X Z L own own (.For (.Tuple elts kk tpos) (.Call (.Attribute (.Name x p1) "items" p2) [] [] p3) body [] pos) (sFor (iItemsD (eVar i)) g m) := by
  refine PS.mono (PS.orr (ps_walkI (L := L) hp hc (hg Z) (hb Z) hN hv hd hcd hbase hline hs hfl) (ps_lock (PS.exx fun Z' => ps_walkI (L := L) hp hc (hg Z') (hb Z') hN hv hd hcd hbase hline hs hfl))) fun Dn σ H ⟨H0, ρ, S, q⟩ => ?_
  unfold sFor at q
  split at q
  · rename_i ds h1
    unfold iItemsD at h1
    split at h1
    · rename_i es h2
      cases h1
      have e1 : ρ[i]? = some (some (.dct es)) := join_some h2
      obtain ⟨v, e2, r⟩ := S.shr i _ e1 hio
      obtain ⟨a, ks, rfl, rd, rk⟩ := r.dct_inv
      rcases rd with h0 | ⟨o, h0⟩
      · right
        exact ⟨a, .dK ks, S.hs.s a _ h0, trivial, fun od => ⟨Zl Z a od ks, _, ρ, a, od, ks, es, S.on h0, e2, upd_same, RepK.lk (lk_on h0) _ _ rk, Post.on S h0 q⟩⟩
      · left
        exact ⟨H0, ρ, a, o, ks, es, S, e2, h0, rk, q⟩
    · cases h1
  · exact q.elim
def itR : Option D → Option (List D)
  | some (.dct es) => some (es.map itD)
  | _ => none
theorem q_items {f : ME} {ρ : Env'} : iItemsD f ρ = itR (f ρ) := by unfold iItemsD itR; rfl
theorem q_items_s {es : List (Key × D)} : itR (some (.dct es)) = some (es.map itD) := rfl
end
end BW

set_option maxRecDepth 100000
namespace BW
open PySem PySem.Spec L2
/-! ### x += n, x -= n, ints -/
def gAugAdd : G2 := fun d e => match d, e with
  | .int i, .int j => some (.int (i + j))
  | _, _ => none
def gAugSub : G2 := fun d e => match d, e with
  | .int i, .int j => some (.int (i - j))
  | _, _ => none
section
variable {X : Cx} {Z : Fm} {own L : List Nat} {pos pos' : Pos} {e : Expr} {f : ME} {x : Str} {i : Nat}
theorem ds_augAdd (hN : X.N.Nodup) (he : DE X Z own e f) (hio : i ∉ own := by decide) (hi : X.N[i]? = some x := by rfl) (hx : Loc X.env.scope x := by first | exact Or.inl rfl | exact Or.inr rfl) (hf : X.fn x = true ∨ X.env.scope.names.lookup x = some .local := by first | exact .inl rfl | exact .inr rfl) :
    DS X Z L own own (.AugAssign (.Name x pos') .Add e pos) (sSet i (eBin gAugAdd (eVar i) f)) := by
  refine PS.mono (ps_aug hN hi hx he ip_add hf) fun Dn σ H ⟨H0, ρ, S, q⟩ => ?_
  unfold sSet at q
  split at q
  · rename_i d h1
    obtain ⟨d1, d2, e1, e2, e3⟩ := eBin_some h1
    obtain ⟨v, a, r⟩ := S.shr i _ (join_some e1) hio
    refine ⟨v, a, tD.one S e2 fun u H1 H01 S1 g1 r1 => ?_⟩
    unfold gAugAdd at e3
    split at e3
    · cases e3
      exact ⟨_, _, r.int_inv, r1.int_inv, q _ _ H01 (S1.put hio (.int _)) g1.s0⟩
    · cases e3
  · exact q.elim
theorem ds_augSub (hN : X.N.Nodup) (he : DE X Z own e f) (hio : i ∉ own := by decide) (hi : X.N[i]? = some x := by rfl) (hx : Loc X.env.scope x := by first | exact Or.inl rfl | exact Or.inr rfl) (hf : X.fn x = true ∨ X.env.scope.names.lookup x = some .local := by first | exact .inl rfl | exact .inr rfl) :
    DS X Z L own own (.AugAssign (.Name x pos') .Sub e pos) (sSet i (eBin gAugSub (eVar i) f)) := by
  refine PS.mono (ps_aug hN hi hx he ip_sub hf) fun Dn σ H ⟨H0, ρ, S, q⟩ => ?_
  unfold sSet at q
  split at q
  · rename_i d h1
    obtain ⟨d1, d2, e1, e2, e3⟩ := eBin_some h1
    obtain ⟨v, a, r⟩ := S.shr i _ (join_some e1) hio
    refine ⟨v, a, tD.one S e2 fun u H1 H01 S1 g1 r1 => ?_⟩
    unfold gAugSub at e3
    split at e3
    · cases e3
      exact ⟨_, _, r.int_inv, r1.int_inv, q _ _ H01 (S1.put hio (.int _)) g1.s0⟩
    · cases e3
  · exact q.elim
theorem q_augAdd {a b : Int} : gAugAdd (.int a) (.int b) = some (.int (a + b)) := rfl
theorem q_augSub {a b : Int} : gAugSub (.int a) (.int b) = some (.int (a - b)) := rfl
end
end BW

set_option maxRecDepth 100000
/-! What a call gives back as the caller's own; what is owned is lent to a test. -/
namespace BW
open PySem PySem.Spec L2

/-- gives back None, or a new thing that is the caller's own -/
def spF (K : PySem.W.Frag) (n : Nat) (m : MF) : Sp := fun vs H Q _ => vs.length = n ∧ ∃ Z ds d, Same Z H ∧ RepL K Z vs ds ∧ m ds = some d ∧ ∀ v H' Z', Grow Z H Z' H' → FrR K H Z' H' v d → Q v H'
structure DfF (P : Program) (w : World) (K : PySem.W.Frag) (mg : Str → Option Value) (base : Heap) (k : Nat) (x : Str) (n : Nat) (m : MF) : Prop where
  ex : ∃ (f : Addr) (fd : FuncData) (ps : List Str), FnOk P w K mg base CX0 k f fd ps (spF K n m) ∧ Binds K fd ps [] ∧ PySem.W.keepIn K (.ref f) = true ∧ mg x = some (.ref f)
theorem FrR.rep {K : PySem.W.Frag} {H0 H H0' H' : Hp} {v : V} {d : D} (g : Grow H0 H H0' H') (r : FrR K H H0' H' v d) : ∃ H1, Grow H0 H H1 H' ∧ Rep K H1 v d := by
  rcases r with ⟨rfl, rfl⟩ | ⟨p, rfl, n0, n, o⟩
  · exact ⟨H0', g, .non⟩
  · obtain ⟨H1, a, b, r, c⟩ := BW.freeze g.sub n0 o
    exact ⟨H1, g.freeze n a b c, r⟩
theorem spD_F {K : PySem.W.Frag} {n : Nat} {m : MF} {vs : List V} {H : Hp} {Q : VK} {E : XK} (h : spD K n m vs H Q E) : spF K n m vs H Q E := by
  obtain ⟨hl, Z, ds, d, s, r, e, q⟩ := h
  exact ⟨hl, Z, ds, d, s, r, e, fun v H' Z' g fr => by
    obtain ⟨H1, g1, r1⟩ := fr.rep g
    exact q v H' H1 g1 r1⟩
theorem fn_F {P : Program} {w : World} {K : PySem.W.Frag} {mg : Str → Option Value} {base : Heap} {k n : Nat} {f : Addr} {fd : FuncData} {ps : List Str} {m : MF} (G : FnOk P w K mg base CX0 k f fd ps (spF K n m)) : FnOk P w K mg base CX0 k f fd ps (spD K n m) :=
  ⟨fun vs H Q E h => G.len vs H Q E (spD_F h), fun A outer s H args us vs Q E hr e b v h => G.run A outer s H args us vs Q E hr e b v (spD_F h)⟩
theorem DfF.df {P : Program} {w : World} {K : PySem.W.Frag} {mg : Str → Option Value} {base : Heap} {k n : Nat} {x : Str} {m : MF} (G : DfF P w K mg base k x n m) : Df P w K mg base k x n m := by
  obtain ⟨f, fd, ps, F, b, kp, mx⟩ := G.ex
  exact ⟨f, fd, ps, fn_F F, b, kp, mx⟩
def tFN (K : PySem.W.Frag) (Z : Fm) (own : List Nat) (f : ME) : TE := fun σ H Q => ∃ H0 ρ d, SR K Z own σ H0 H ρ ∧ f ρ = some d ∧ ∀ v H' H0', Grow H0 H H0' H' → FrR K H H0' H' v d → Q v H'
/-- the expression makes None, or a new list or dict -/
def DFN (X : Cx) (Z : Fm) (own : List Nat) (e : Expr) (f : ME) : Prop := PE X e (tFN X.K Z own f)
section
variable {X : Cx} {Z : Fm} {own own' own'' L : List Nat} {pos p p1 p2 p3 : Pos} {e : Expr} {es : List Expr} {f : ME} {fs : MA} {x : Str} {n k j : Nat} {m : MF} {rest : List Stmt} {m1 m2 : MS} {pb : MB}
theorem DFN.de (h : DFN X Z own e f) : DE X Z own e f := by
  refine PE.mono h fun σ H Q ⟨H0, ρ, d, S, e, q⟩ => ⟨H0, ρ, d, S, e, fun v H' H0' g fr => ?_⟩
  obtain ⟨H1, g1, r⟩ := fr.rep g
  exact q _ H' H1 g1 r
theorem dfn_call (G : DfF X.prog X.w X.K X.mg X.base k x n m) (hr : Room j X.A) (ha : DA X Z own (e :: es) fs) (hk : k ≤ j := by decide) (hg : Gl X x := by rfl) (hn : (e :: es).length = n := by rfl) (hdb : (x == ("__debug__" : Str)) = false := by decide) (he : starEach (e :: es) X.env = (false, eval e X.env) :: starEach es X.env := by rfl) (hpl : (backTo pos (starEach es X.env)).any (·.1) = false := by rfl) :
    DFN X Z own (.Call (.Name x p) (e :: es) [] pos) (eCall m fs) := by
  obtain ⟨f, fd, ps, F, b, kp, mx⟩ := G.ex
  refine PE.mono (pe_call F (hr.mono hk) hg mx kp b .nil pass0 ha.pa hdb he hpl) fun σ H Q ⟨H0, ρ, r, S, e, q⟩ => ?_
  unfold eCall at e
  cases h1 : fs ρ with
  | none => rw [h1] at e; cases e
  | some ds =>
    rw [h1] at e
    refine ⟨H0, ρ, ds, S, h1, fun vs H1 H01 g1 r1 => ?_⟩
    show spF X.K n m (vs ++ []) H1 Q E0
    rw [List.append_nil]
    refine ⟨by rw [r1.length, ha.len ρ ds h1]; exact hn, H01, ds, r, g1.sub, r1, e, fun v H2 H02 g2 rv => q v H2 H02 (g1.trans g2) ?_⟩
    rcases rv with a | ⟨p, a, n0, nn, o⟩
    · exact .inl a
    · exact .inr ⟨p, a, n0, Same.free g1.s nn, o⟩

/-! a name that holds None, or a new thing of its own: the rest is told twice -/
def sMaybe (i : Nat) (f : ME) (m1 m2 : MS) : MS := fun ρ => match f ρ with
  | some .non => m1 (ρ.set i (some .non))
  | some d => m2 (ρ.set i (some d))
  | none => .no
theorem PSs.orr {X : Cx} {st : List Stmt} {t t' : TS} (h : PSs X st t) (h' : PSs X st t') : PSs X st (fun D σ H => t D σ H ∨ t' D σ H) :=
  ⟨fun pins s σ H D I q => q.elim (h.run pins s σ H D I) (h'.run pins s σ H D I)⟩
theorem dss_maybe {i : Nat} {pos' : Pos} (hN : X.N.Nodup) (he : DFN X Z own e f) (h1 : DSs X Z L own own'' rest m1) (h2 : DSs X Z L (i :: own) own'' rest m2) (hio : i ∉ own := by decide) (hi : X.N[i]? = some x := by rfl) (hx : Loc X.env.scope x := by first | exact Or.inl rfl | exact Or.inr rfl)
    (hs : swapsWith e (some (.Name x pos')) pos.line X.env = pure false := by rfl) (hf : X.fn x = true ∨ X.env.scope.names.lookup x = some .local := by first | exact .inl rfl | exact .inr rfl) : DSs X Z L own own'' (.Assign [.Name x pos'] e pos :: rest) (sMaybe i f m1 m2) := by
  refine PSs.mono (pss_cons (ps_set hN hi hx he hs hf) (PSs.orr h1 h2)) fun Dn σ H ⟨H0, ρ, S, q⟩ => ?_
  unfold sMaybe at q
  have fin : ∀ {r : Res} {H0' : Hp}, Same H0 H0' → Post X.K Z L own'' H0 Dn r → Post X.K Z L own'' H0' Dn r := fun s q => Post.mono s q (fun ρ2 e2 σ2 H2 H02 S2 s2 k => k σ2 H2 H02 S2 (s.trans s2)) rfl rfl rfl
  split at q
  · rename_i h1
    refine ⟨H0, ρ, _, S, h1, fun v H' H0' g fr => ?_⟩
    rcases fr with ⟨_, rfl⟩ | ⟨p, _, _, _, o⟩
    · exact .inl ⟨H0', _, (S.grow g).put hio .non, fin g.s0 q⟩
    · exact o.elim
  · rename_i d hne h1
    refine ⟨H0, ρ, _, S, h1, fun v H' H0' g fr => ?_⟩
    rcases fr with ⟨a, _⟩ | ⟨p, rfl, n0, nn, o⟩
    · exact absurd a hne
    · refine .inr ⟨H0', _, (S.grow g).putOwn hio n0 (Same.free S.hs.i nn) (fun j d hj e z => ?_) o, fin g.s0 q⟩
      obtain ⟨p', e3, _, _, o'⟩ := S.ownd j d e hj
      rw [e3] at z
      cases z
      exact o'.some nn
  · exact q.elim

/-! what is owned, lent to a test, or to what makes a number, a text, None -/
theorem grow_lent {H0 H H01 H01' H' : Hp} (s : Same H0 H) (g : Grow H01 H H01' H') : Grow H0 H H0 H' := ⟨Same.refl _, g.s, s.trans g.s, fun _ _ h => h⟩
theorem dt_lend (i : Nat) (h : DT X Z own' e pb) (hs : own' = own.filter (· != i) := by rfl) : DT X Z own e pb := by
  refine PT.mono h fun σ H Q ⟨H0, ρ, b, S, e, q⟩ => ?_
  obtain ⟨H1, S1, s1⟩ := S.freeze (own' := own') i (fun j hj => by rw [hs, List.mem_filter] at hj; exact ⟨hj.1, by simpa using hj.2⟩) (fun j hj => by
    by_cases e : j = i
    · exact .inl e
    · right; rw [hs, List.mem_filter]; exact ⟨hj, by simpa using e⟩)
  exact ⟨H1, ρ, b, S1, e, fun H' H0' g => q H' H0 (grow_lent S.hs.s g)⟩
def fltD : D → Bool
  | .non => true
  | .bl _ => true
  | .int _ => true
  | .str _ => true
  | _ => false
theorem Rep.flt {K : PySem.W.Frag} {H H' : Hp} {v : V} : ∀ {d : D}, Rep K H v d → fltD d = true → Rep K H' v d
  | .non, h, _ => by cases h; exact .non
  | .bl b, h, _ => by cases h; exact .bl b
  | .int i, h, _ => by cases h; exact .int i
  | .str x, h, _ => by cases h; exact .str x
  | .lst _, _, e => by cases e
  | .tup _, _, e => by cases e
  | .dct _, _, e => by cases e
  | .ins _ _, _, e => by cases e
def eFlat (f : ME) : ME := fun ρ => match f ρ with
  | some d => if fltD d = true then some d else none
  | none => none
theorem de_lend (i : Nat) (h : DE X Z own' e f) (hs : own' = own.filter (· != i) := by rfl) : DE X Z own e (eFlat f) := by
  refine PE.mono h fun σ H Q ⟨H0, ρ, d, S, e, q⟩ => ?_
  unfold eFlat at e
  split at e
  · rename_i d' h1
    split at e
    · rename_i hfd
      cases e
      obtain ⟨H1, S1, s1⟩ := S.freeze (own' := own') i (fun j hj => by rw [hs, List.mem_filter] at hj; exact ⟨hj.1, by simpa using hj.2⟩) (fun j hj => by
        by_cases e : j = i
        · exact .inl e
        · right; rw [hs, List.mem_filter]; exact ⟨hj, by simpa using e⟩)
      exact ⟨H1, ρ, _, S1, h1, fun v H' H0' g r => q v H' H0 (grow_lent S.hs.s g) (r.flt hfd)⟩
    · cases e
  · cases e

/-! x.clear(), x a name's own dict or list -/
def sClr (i : Nat) : MS := fun ρ => match (ρ[i]?).join with
  | some (.dct _) => .nx (ρ.set i (some (.dct [])))
  | _ => .no
theorem ds_clear {i : Nat} (hio : i ∈ own := by decide) (hN : X.N[i]? = some x := by rfl) (hv : Vis X.env.scope x := by first | exact Or.inl rfl | exact Or.inr (Or.inl rfl) | exact Or.inr (Or.inr rfl)) (hd : (x == ("__debug__" : Str)) = false := by decide)
    (hcd : (x == ("__classdict__" : Str)) = false := by decide) (hbase : attributeBase (.Name x p1) "clear" X.env (eval (.Name x p1) X.env) = eval (.Name x p1) X.env := by rfl) (hline : (p2.endLine == p3.line) = true := by rfl)
    (hs : swapsWith (.Call (.Attribute (.Name x p1) "clear" p2) [] [] p3) none pos.line X.env = pure false := by rfl) : DS X Z L own own (.Expr (.Call (.Attribute (.Name x p1) "clear" p2) [] [] p3) pos) (sClr i) := by
  refine PS.mono (ps_expr (pe_dclear (pe_var hN hv hd hcd) hbase hline) hs) fun Dn σ H ⟨H0, ρ, S, q⟩ => ?_
  unfold sClr at q
  split at q
  · rename_i es h1
    have e1 := join_some h1
    obtain ⟨a, e2, n0, ni, vs, o, r⟩ := S.ownd i _ e1 hio
    refine ⟨_, e2, .inr (.inr (.inl ⟨rfl, .inl ⟨_, o⟩⟩)), a, vs, rfl, rfl, o, ?_⟩
    exact q σ _ H0 (S.turn hio e1 e2 ⟨_, upd_same, .nil⟩) (Same.refl _)
  · exact q.elim

/-! returns of a def that gives back what is the caller's own -/
def sRetN (f : ME) : MS := fun ρ => match f ρ with
  | some .non => .rt .non
  | _ => .no
theorem ds_retN (he : DE X Z own e f) (hfl : frl L = true := by rfl) : DS X Z L own own' (.Return (some e) pos) (sRetN f) := by
  refine PS.mono (ps_ret he) fun Dn σ H ⟨H0, ρ, S, q⟩ => ?_
  unfold sRetN at q
  split at q
  · rename_i h1
    refine tD.one S h1 fun v H1 H01 S1 g1 r1 => q v H1 H01 S1.hs ?_
    rw [hfl]
    exact .inl ⟨rfl, r1.non_inv⟩
  · exact q.elim
theorem ds_retO (i : Nat) (hio : i ∈ own := by decide) (hfl : frl L = true := by rfl) (hN : X.N[i]? = some x := by rfl) (hv : Vis X.env.scope x := by first | exact Or.inl rfl | exact Or.inr (Or.inl rfl) | exact Or.inr (Or.inr rfl)) (hd : (x == ("__debug__" : Str)) = false := by decide) (hcd : (x == ("__classdict__" : Str)) = false := by decide) :
    DS X Z L own own' (.Return (some (.Name x p1)) pos) (sRet (eVar i)) := by
  refine PS.mono (ps_ret (pe_var hN hv hd hcd)) fun Dn σ H ⟨H0, ρ, S, q⟩ => ?_
  unfold sRet at q
  split at q
  · rename_i d h1
    have e1 := join_some h1
    obtain ⟨a, e2, n0, ni, o⟩ := S.ownd i _ e1 hio
    refine ⟨_, e2, q _ H H0 S.hs ?_⟩
    rw [hfl]
    exact .inr ⟨a, rfl, n0, ni, o⟩
  · exact q.elim
theorem ds_retF (he : DF X Z own e f) (hfl : frl L = true := by rfl) : DS X Z L own own' (.Return (some e) pos) (sRet f) := by
  refine PS.mono (ps_ret he) fun Dn σ H ⟨H0, ρ, S, q⟩ => ?_
  unfold sRet at q
  split at q
  · rename_i d h1
    refine ⟨H0, ρ, d, S, h1, fun p H' H0' g n n0 o => q _ H' H0' (S.grow g).hs ?_⟩
    rw [hfl]
    exact .inr ⟨p, rfl, n0, Same.free S.hs.i n, o⟩
  · exact q.elim
theorem ds_retFN (he : DFN X Z own e f) (hfl : frl L = true := by rfl) : DS X Z L own own' (.Return (some e) pos) (sRet f) := by
  refine PS.mono (ps_ret he) fun Dn σ H ⟨H0, ρ, S, q⟩ => ?_
  unfold sRet at q
  split at q
  · rename_i d h1
    refine ⟨H0, ρ, d, S, h1, fun v H' H0' g fr => q _ H' H0' (S.grow g).hs ?_⟩
    rw [hfl]
    rcases fr with a | ⟨p, a, n0, nn, o⟩
    · exact .inl a
    · exact .inr ⟨p, a, n0, Same.free S.hs.i nn, o⟩
  · exact q.elim
end
theorem SR.mark {K : PySem.W.Frag} {Z : Fm} {σ : St} {H0 H : Hp} {ρ : Env'} (S : SR K Z [] σ H0 H ρ) (h : ρ.length ≤ 999) : SR K Z [999] σ H0 H ρ := by
  have no : ∀ d : D, ρ[999]? = some (some d) → False := fun d e => by
    rw [List.getElem?_eq_none h] at e; cases e
  refine ⟨S.len, S.hs, fun i d e n => S.shr i d e List.not_mem_nil, fun i d e n => ?_, fun i j d e p a b c => ?_⟩
  · rw [List.mem_singleton] at n; subst n; exact (no d e).elim
  · rw [List.mem_singleton] at a; subst a; exact fun _ => (no d c).elim
theorem fn_okF {P : Program} {w : World} {K : PySem.W.Frag} {mg : Str → Option Value} {base : Heap} {x qual : Str} {st : Stmt} {f : Addr} {fd : FuncData} {N ps : List Str} {k : Nat} {m : MS} (F : Fun K x qual st f fd) (S : FnScope N ps (defScope st))
    (body : ∀ (X : Cx) (Z : Fm) (cdv : Value) (A : Around) (outer : List Env) (s : Shared) (H : Hp) (E : XK), X = (cxOf CX0 P w K mg base N qual (defScope st) f cdv A outer s H E).nox → Room k X.A → PassesOwn (model X.prog X.w) X.A X.env X.xe → ∃ o, DSs X Z [999] [999] o (defBody st) m) (h9 : ps.length ≤ 999 ∧ N.length ≤ 999 := by decide) :
    FnOk P w K mg base CX0 (k + 1) f fd ps (spF K ps.length (runD N.length m)) := by
  refine F.ok S (fun vs H Q E h => h.1) (fun cdv A outer s H vs Q E hr h => ?_)
  obtain ⟨hl, Z, ds, d, hz, r, e, q⟩ := h
  obtain ⟨o, hB⟩ := body _ ⟨H, Z⟩ cdv A outer s H E rfl hr PassesOwn.never
  have hds : (start' N.length ds).length ≤ 999 := by
    unfold start'
    rw [List.length_append, List.length_map, List.length_replicate, ← r.length, hl]
    omega
  refine ⟨_, hB, Z, _, (sr_start hz r).mark hds, ?_⟩
  unfold runD at e
  split at e
  · rename_i d' h1
    cases e
    rw [h1]
    exact fun v H' H0' hs rv => q v H' H0' hs.toGrow rv
  · rename_i ρ h1
    cases e
    rw [h1]
    exact fun σ H' H0' S' s => q .non H' H0' S'.hs.toGrow (.inl ⟨rfl, rfl⟩)
  · cases e
theorem dfF_of {P : Program} {w : World} {K : PySem.W.Frag} {mg : Str → Option Value} {base : Heap} {x qual : Str} {st : Stmt} {f : Addr} {fd : FuncData} {ps : List Str} {k n : Nat} {m : MF} (F : Fun K x qual st f fd) (hb : Binds K fd ps []) (hm : mg x = some (.ref f)) (G : FnOk P w K mg base CX0 k f fd ps (spF K n m)) : DfF P w K mg base k x n m :=
  ⟨f, fd, ps, G, hb, F.kp, hm⟩

/-- a statement that is never come to -/
def sNo : MS := fun _ => .no
theorem ds_never {X : Cx} {Z : Fm} {L own own' : List Nat} {st : Stmt} : DS X Z L own own' st sNo := ⟨fun pins s σ H D I ⟨_, _, _, q⟩ => q.elim⟩

/-! any thing as a test -/
def truD : D → Option Bool
  | .non => some false
  | .bl b => some b
  | .int i => some (i != 0)
  | .lst ds => some (!ds.isEmpty)
  | .tup ds => some (!ds.isEmpty)
  | _ => none
def bTru (f : ME) : MB := fun ρ => (f ρ).bind truD
theorem RepL.emp {K : PySem.W.Frag} {H : Hp} {vs : List V} {ds : List D} (r : RepL K H vs ds) : ds.isEmpty = vs.isEmpty := by
  cases r <;> rfl
theorem dt_tru {X : Cx} {Z : Fm} {own : List Nat} {a : Expr} {f : ME} (h : DE X Z own a f) (he : ∀ whole, isTrue a X.env whole = (do let v ← whole; standAt a.pos; holding [v] (truthy v)) := by intro _; rfl) : DT X Z own a (bTru f) := by
  refine PT.mono (pt_truth h he) fun σ H Q ⟨H0, ρ, b, S, e, q⟩ => ?_
  unfold bTru at e
  cases h1 : f ρ with
  | none => rw [h1] at e; cases e
  | some d =>
    rw [h1] at e
    refine ⟨H0, ρ, d, S, h1, fun v H' H0' g r => ⟨b, ?_, q H' H0' g⟩⟩
    have e' : truD d = some b := e
    cases r with
    | non => cases e'; rfl
    | bl c => cases e'; rfl
    | int i => cases e'; rfl
    | str x => cases e'
    | lst a r =>
      cases e'
      exact .inl ⟨_, g.sub.seq a, by rw [r.emp]⟩
    | tup a r =>
      cases e'
      exact .inr (.inl ⟨_, Same.seqT g.sub a, by rw [r.emp]⟩)
    | dct a r => cases e'
    | ins a r => cases e'

/-! the steps -/
def truR : Option D → Option Bool
  | some d => truD d
  | none => none
theorem q_tru {f : ME} {ρ : Env'} : bTru f ρ = truR (f ρ) := by unfold bTru truR; cases f ρ <;> rfl
theorem q_tru_b {b : Bool} : truR (some (.bl b)) = some b := rfl
theorem q_tru_n : truR (some .non) = some false := rfl
theorem q_tru_i {i : Int} : truR (some (.int i)) = some (i != 0) := rfl
theorem q_tru_l {ds : List D} : truR (some (.lst ds)) = some (!ds.isEmpty) := rfl
theorem q_tru_t {ds : List D} : truR (some (.tup ds)) = some (!ds.isEmpty) := rfl
def retNR : Option D → Res
  | some .non => .rt .non
  | _ => .no
theorem q_retN {f : ME} {ρ : Env'} : sRetN f ρ = retNR (f ρ) := by
  unfold sRetN retNR; rfl
theorem q_retN_s : retNR (some .non) = .rt .non := rfl
def clrR (i : Nat) (ρ : Env') : Option D → Res
  | some (.dct _) => .nx (ρ.set i (some (.dct [])))
  | _ => .no
theorem q_clr {i : Nat} {ρ : Env'} : sClr i ρ = clrR i ρ (ρ[i]?).join := by unfold sClr clrR; rfl
theorem q_clr_s {i : Nat} {ρ : Env'} {es : List (Key × D)} : clrR i ρ (some (.dct es)) = .nx (ρ.set i (some (.dct []))) := rfl
def mayR (i : Nat) (m1 m2 : MS) (ρ : Env') : Option D → Res
  | some .non => m1 (ρ.set i (some .non))
  | some d => m2 (ρ.set i (some d))
  | none => .no
theorem q_may {i : Nat} {f : ME} {m1 m2 : MS} {ρ : Env'} : sMaybe i f m1 m2 ρ = mayR i m1 m2 ρ (f ρ) := by unfold sMaybe mayR; rfl
theorem q_may_n {i : Nat} {m1 m2 : MS} {ρ : Env'} : mayR i m1 m2 ρ (some .non) = m1 (ρ.set i (some .non)) := rfl
theorem q_may_d {i : Nat} {m1 m2 : MS} {ρ : Env'} {es : List (Key × D)} : mayR i m1 m2 ρ (some (.dct es)) = m2 (ρ.set i (some (.dct es))) := rfl
theorem q_may_l {i : Nat} {m1 m2 : MS} {ρ : Env'} {es : List D} : mayR i m1 m2 ρ (some (.lst es)) = m2 (ρ.set i (some (.lst es))) := rfl
theorem q_no {ρ : Env'} : sNo ρ = .no := rfl
theorem q_flat_s {f : ME} {ρ : Env'} : eFlat f ρ = (match f ρ with | some d => if fltD d = true then some d else none | none => none) := rfl
end BW

set_option maxRecDepth 100000
namespace K09
open PySem PySem.Spec L2 BW
structure Bts (mg : Str → Option Value) : Prop where
  bool : mg "bool" = none
  dict : mg "dict" = none
  int : mg "int" = none
  isinstance : mg "isinstance" = none
  len : mg "len" = none
  max : mg "max" = none
  min : mg "min" = none
  range : mg "range" = none
  sorted : mg "sorted" = none
  str : mg "str" = none
  tuple : mg "tuple" = none
  zip : mg "zip" = none
def top (i : Nat) : Stmt := PySem.Challenge.pw_boundwatch_k09_what_conditions_keep.main.body.getD i (.Pass ⟨0, 0, 0, 0⟩)
abbrev s_cell_at : Stmt := top 16
def b_cell_at_1 : MS :=
    (sRet (eC (.int 0)))
def b_cell_at : MS :=
    sSeq (sIf (bOf (eBin (gB fun i j => decide (i < j)) (eVar 1) (eCall gLen (aCons (eVar 0) aNil))))
    (sRet (eBin gIx (eVar 0) (eVar 1)))
    sNext) b_cell_at_1
def m_cell_at : MF := runD 2 b_cell_at
theorem sc_cell_at : FnScope ["_law_script", "_law_k"] ["_law_script", "_law_k"] (defScope s_cell_at) := ⟨rfl, rfl, rfl, by decide +kernel, rfl, by decide +kernel, by decide +kernel⟩
theorem ok_cell_at {P : Program} {w : World} {K : PySem.W.Frag} {mg : Str → Option Value} {base : Heap} {f : Addr} {fd : FuncData} (F : Fun K "_law_cell_at" "_law_cell_at" s_cell_at f fd) (Bt : Bts mg)  :
    FnOk P w K mg base CX0 1 f fd ["_law_script", "_law_k"] (spD K 2 m_cell_at) :=
  fn_ok F sc_cell_at fun X Z cdv A outer s H E hX hr hp => by
    subst hX
    exact ⟨[], (dss_cons (ds_if (dt_cmp dop_lt (de_var 1) (de_callB dcl_len Bt.len (da_cons (de_var 0) da_nil)))
      (dss_one (ds_ret (de_ix (de_var 0) (de_var 1))))
      dss_nil)
      (dss_one (ds_ret de_int)))⟩
abbrev s_contrary : Stmt := top 38
def b_contrary : MS :=
    (sRet (eBin gDGet (eDisp [((eC (.str "<")), (eTup (aCons (eC (.str "<=")) (aCons (eBin gIx (eVar 0) (eC (.int 2))) (aCons (eBin gIx (eVar 0) (eC (.int 1))) aNil))))), ((eC (.str "<=")), (eTup (aCons (eC (.str "<")) (aCons (eBin gIx (eVar 0) (eC (.int 2))) (aCons (eBin gIx (eVar 0) (eC (.int 1))) aNil))))), ((eC (.str "=")), (eTup (aCons (eC (.str "!=")) (aCons (eBin gIx (eVar 0) (eC (.int 1))) (aCons (eBin gIx (eVar 0) (eC (.int 2))) aNil))))), ((eC (.str "!=")), (eTup (aCons (eC (.str "=")) (aCons (eBin gIx (eVar 0) (eC (.int 1))) (aCons (eBin gIx (eVar 0) (eC (.int 2))) aNil)))))]) (eBin gIx (eVar 0) (eC (.int 0)))))
def m_contrary : MF := runD 1 b_contrary
theorem sc_contrary : FnScope ["_law_told_here"] ["_law_told_here"] (defScope s_contrary) := ⟨rfl, rfl, rfl, by decide +kernel, rfl, by decide +kernel, by decide +kernel⟩
theorem ok_contrary {P : Program} {w : World} {K : PySem.W.Frag} {mg : Str → Option Value} {base : Heap} {f : Addr} {fd : FuncData} (F : Fun K "_law_contrary" "_law_contrary" s_contrary f fd) (Bt : Bts mg)  :
    FnOk P w K mg base CX0 1 f fd ["_law_told_here"] (spD K 1 m_contrary) :=
  fn_ok F sc_contrary fun X Z cdv A outer s H E hX hr hp => by
    subst hX
    exact ⟨[], (dss_one (ds_ret (de_dget hr ((df_disp (dps_cons de_str (de_tup (da_cons de_str (da_cons (de_ix (de_var 0) de_int) (da_cons (de_ix (de_var 0) de_int) da_nil)))) (dps_cons de_str (de_tup (da_cons de_str (da_cons (de_ix (de_var 0) de_int) (da_cons (de_ix (de_var 0) de_int) da_nil)))) (dps_cons de_str (de_tup (da_cons de_str (da_cons (de_ix (de_var 0) de_int) (da_cons (de_ix (de_var 0) de_int) da_nil)))) (dps_cons de_str (de_tup (da_cons de_str (da_cons (de_ix (de_var 0) de_int) (da_cons (de_ix (de_var 0) de_int) da_nil)))) dps_nil)))))).de (de_ix (de_var 0) de_int))))⟩
abbrev s_worth : Stmt := top 24
def b_worth_10 (m_worth : MF) : MS :=
    (sRet (eVar 4))
def b_worth_9 (m_worth : MF) : MS :=
    sSeq (sIf (bOr (bOf (eBin (gB fun i j => decide (i < j)) (eVar 4) (eNeg (eC (.int 1000000))))) (bOf (eBin (gB fun i j => decide (j < i)) (eVar 4) (eC (.int 1000000)))))
    (sRet (eC .non))
    sNext) (b_worth_10 m_worth)
def b_worth_8 (m_worth : MF) : MS :=
    sSeq (sIf (bOf (eBin gEq (eBin gIx (eVar 0) (eC (.int 0))) (eC (.str "-"))))
    (sSet 4 (eBin gMinus (eVar 2) (eVar 3)))
    sNext) (b_worth_9 m_worth)
def b_worth_7 (m_worth : MF) : MS :=
    sSeq (sIf (bOf (eBin gEq (eBin gIx (eVar 0) (eC (.int 0))) (eC (.str "+"))))
    (sSet 4 (eBin gAdd (eVar 2) (eVar 3)))
    sNext) (b_worth_8 m_worth)
def b_worth_6 (m_worth : MF) : MS :=
    sSeq (sSet 4 (eBin gMulI (eVar 2) (eVar 3))) (b_worth_7 m_worth)
def b_worth_5 (m_worth : MF) : MS :=
    sSeq (sIf (bOf (eBin gEq (eBin gIx (eVar 0) (eC (.int 0))) (eC (.str "rest"))))
    (sRet (eBin gMinus (eVar 2) (eBin gMulI (eBin gDiv (eVar 2) (eVar 3)) (eVar 3))))
    sNext) (b_worth_6 m_worth)
def b_worth_4 (m_worth : MF) : MS :=
    sSeq (sIf (bOr (bOf (eBin gIs (eVar 2) (eC .non))) (bOf (eBin gIs (eVar 3) (eC .non))))
    (sRet (eC .non))
    sNext) (b_worth_5 m_worth)
def b_worth_3 (m_worth : MF) : MS :=
    sSeq (sSet 3 (eCall m_worth (aCons (eBin gIx (eVar 0) (eC (.int 2))) (aCons (eVar 1) aNil)))) (b_worth_4 m_worth)
def b_worth_2 (m_worth : MF) : MS :=
    sSeq (sSet 2 (eCall m_worth (aCons (eBin gIx (eVar 0) (eC (.int 1))) (aCons (eVar 1) aNil)))) (b_worth_3 m_worth)
def b_worth_1 (m_worth : MF) : MS :=
    sSeq (sIf (bNot (bOf (eIsi .tuple (eVar 0))))
    (sRet (eVar 0))
    sNext) (b_worth_2 m_worth)
def b_worth (m_worth : MF) : MS :=
    sSeq (sIf (bOf (eIsi .str (eVar 0)))
    (sRet (eBin gDGet (eVar 1) (eVar 0)))
    sNext) (b_worth_1 m_worth)
def m_worth : Nat → MF
  | 0 => fun _ => none
  | n + 1 => runD 5 (b_worth (m_worth n))
theorem sc_worth : FnScope ["_law_part", "_law_held_here", "_law_left", "_law_right", "_law_found"] ["_law_part", "_law_held_here"] (defScope s_worth) := ⟨rfl, rfl, rfl, by decide +kernel, rfl, by decide +kernel, by decide +kernel⟩
theorem ok_worth {P : Program} {w : World} {K : PySem.W.Frag} {mg : Str → Option Value} {base : Heap} {f : Addr} {fd : FuncData} (F : Fun K "_law_worth" "_law_worth" s_worth f fd) (Bt : Bts mg)  (hb : Binds K fd ["_law_part", "_law_held_here"] []) (hm : mg "_law_worth" = some (.ref f)) :
    ∀ n : Nat, FnOk P w K mg base CX0 (0 + n) f fd ["_law_part", "_law_held_here"] (spD K 2 (m_worth n))
  | 0 => fn_none
  | n + 1 =>
    have d_worth : Df P w K mg base (0 + n) "_law_worth" 2 (m_worth n) := df_of F hb hm (ok_worth F Bt  hb hm n)
    have hge : 0 ≤ 0 + n := Nat.le_add_right _ _
    fn_ok F sc_worth fun X Z cdv A outer s H E hX hr hp => by
    subst hX
    exact ⟨[], (dss_cons (ds_if (dt_val (de_isi .str Bt.isinstance Bt.str (de_var 0)))
      (dss_one (ds_ret (de_dget hr (de_var 1) (de_var 0))))
      dss_nil)
      (dss_cons (ds_if (dt_not (dt_val (de_isi .tuple Bt.isinstance Bt.tuple (de_var 0))))
      (dss_one (ds_ret (de_var 0)))
      dss_nil)
      (dss_cons (ds_set (i := 2) sc_worth.nd (de_call d_worth hr (da_cons (de_ix (de_var 0) de_int) (da_cons (de_var 1) da_nil)) (hk := Nat.le_refl _)))
      (dss_cons (ds_set (i := 3) sc_worth.nd (de_call d_worth hr (da_cons (de_ix (de_var 0) de_int) (da_cons (de_var 1) da_nil)) (hk := Nat.le_refl _)))
      (dss_cons (ds_if (dt_w (dw_or (dt_cmp dop_is (de_var 2) de_non) (dw_or1 (dt_cmp dop_is (de_var 3) de_non))))
      (dss_one (ds_ret de_non))
      dss_nil)
      (dss_cons (ds_if (dt_cmp (dop_eq hr) (de_ix (de_var 0) de_int) de_str)
      (dss_one (ds_ret (de_bin dop_sub (de_var 2) (de_bin dop_mul (de_bin dop_div (de_var 2) (de_var 3)) (de_var 3)))))
      dss_nil)
      (dss_cons (ds_set (i := 4) sc_worth.nd (de_bin dop_mul (de_var 2) (de_var 3)))
      (dss_cons (ds_if (dt_cmp (dop_eq hr) (de_ix (de_var 0) de_int) de_str)
      (dss_one (ds_set (i := 4) sc_worth.nd (de_bin dop_add (de_var 2) (de_var 3))))
      dss_nil)
      (dss_cons (ds_if (dt_cmp (dop_eq hr) (de_ix (de_var 0) de_int) de_str)
      (dss_one (ds_set (i := 4) sc_worth.nd (de_bin dop_sub (de_var 2) (de_var 3))))
      dss_nil)
      (dss_cons (ds_if (dt_w (dw_or (dt_cmp dop_lt (de_var 4) (de_neg de_int)) (dw_or1 (dt_cmp dop_gt (de_var 4) de_int))))
      (dss_one (ds_ret de_non))
      dss_nil)
      (dss_one (ds_ret (de_var 4)))))))))))))⟩
abbrev s_holds : Stmt := top 25
def b_holds_3 : MS :=
    (sRet (eBin gDGet (eDisp [((eC (.str "<")), (eBin (gB fun i j => decide (i < j)) (eVar 2) (eVar 3))), ((eC (.str "<=")), (eBin (gB fun i j => decide (i ≤ j)) (eVar 2) (eVar 3))), ((eC (.str "=")), (eBin gEq (eVar 2) (eVar 3))), ((eC (.str "!=")), (eBin gNe (eVar 2) (eVar 3)))]) (eBin gIx (eVar 0) (eC (.int 0)))))
def b_holds_2 : MS :=
    sSeq (sIf (bOr (bOf (eBin gIs (eVar 2) (eC .non))) (bOf (eBin gIs (eVar 3) (eC .non))))
    (sRet (eC .non))
    sNext) b_holds_3
def b_holds_1 : MS :=
    sSeq (sSet 3 (eCall (m_worth 6) (aCons (eBin gIx (eVar 0) (eC (.int 2))) (aCons (eVar 1) aNil)))) b_holds_2
def b_holds : MS :=
    sSeq (sSet 2 (eCall (m_worth 6) (aCons (eBin gIx (eVar 0) (eC (.int 1))) (aCons (eVar 1) aNil)))) b_holds_1
def m_holds : MF := runD 4 b_holds
theorem sc_holds : FnScope ["_law_told_here", "_law_held_here", "_law_left", "_law_right"] ["_law_told_here", "_law_held_here"] (defScope s_holds) := ⟨rfl, rfl, rfl, by decide +kernel, rfl, by decide +kernel, by decide +kernel⟩
theorem ok_holds {P : Program} {w : World} {K : PySem.W.Frag} {mg : Str → Option Value} {base : Heap} {f : Addr} {fd : FuncData} (F : Fun K "_law_holds" "_law_holds" s_holds f fd) (Bt : Bts mg) (d_worth : Df P w K mg base 6 "_law_worth" 2 (m_worth 6)) :
    FnOk P w K mg base CX0 7 f fd ["_law_told_here", "_law_held_here"] (spD K 2 m_holds) :=
  fn_ok F sc_holds fun X Z cdv A outer s H E hX hr hp => by
    subst hX
    exact ⟨[], (dss_cons (ds_set (i := 2) sc_holds.nd (de_call d_worth hr (da_cons (de_ix (de_var 0) de_int) (da_cons (de_var 1) da_nil))))
      (dss_cons (ds_set (i := 3) sc_holds.nd (de_call d_worth hr (da_cons (de_ix (de_var 0) de_int) (da_cons (de_var 1) da_nil))))
      (dss_cons (ds_if (dt_w (dw_or (dt_cmp dop_is (de_var 2) de_non) (dw_or1 (dt_cmp dop_is (de_var 3) de_non))))
      (dss_one (ds_ret de_non))
      dss_nil)
      (dss_one (ds_ret (de_dget hr ((df_disp (dps_cons de_str (de_cmp dop_lt (de_var 2) (de_var 3)) (dps_cons de_str (de_cmp dop_le (de_var 2) (de_var 3)) (dps_cons de_str (de_cmp (dop_eq hr) (de_var 2) (de_var 3)) (dps_cons de_str (de_cmp (dop_ne hr) (de_var 2) (de_var 3)) dps_nil)))))).de (de_ix (de_var 0) de_int)))))))⟩
abbrev s_met : Stmt := top 35
def b_met_1 : MS :=
    (sRet (eTup (aCons (eCall gMax (aCons (eBin gIx (eVar 0) (eC (.int 0))) (aCons (eVar 1) aNil))) (aCons (eCall gMin (aCons (eBin gIx (eVar 0) (eC (.int 1))) (aCons (eVar 2) aNil))) aNil))))
def b_met : MS :=
    sSeq (sIf (bOr (bOf (eBin gIs (eVar 0) (eC .non))) (bOf (eBin (gB fun i j => decide (j < i)) (eCall gMax (aCons (eBin gIx (eVar 0) (eC (.int 0))) (aCons (eVar 1) aNil))) (eCall gMin (aCons (eBin gIx (eVar 0) (eC (.int 1))) (aCons (eVar 2) aNil))))))
    (sRet (eC .non))
    sNext) b_met_1
def m_met : MF := runD 3 b_met
theorem sc_met : FnScope ["_law_one", "_law_low", "_law_high"] ["_law_one", "_law_low", "_law_high"] (defScope s_met) := ⟨rfl, rfl, rfl, by decide +kernel, rfl, by decide +kernel, by decide +kernel⟩
theorem ok_met {P : Program} {w : World} {K : PySem.W.Frag} {mg : Str → Option Value} {base : Heap} {f : Addr} {fd : FuncData} (F : Fun K "_law_met" "_law_met" s_met f fd) (Bt : Bts mg)  :
    FnOk P w K mg base CX0 1 f fd ["_law_one", "_law_low", "_law_high"] (spD K 3 m_met) :=
  fn_ok F sc_met fun X Z cdv A outer s H E hX hr hp => by
    subst hX
    exact ⟨[], (dss_cons (ds_if (dt_w (dw_or (dt_cmp dop_is (de_var 0) de_non) (dw_or1 (dt_cmp dop_gt (de_callB (dcl_max rfl) Bt.max (da_cons (de_ix (de_var 0) de_int) (da_cons (de_var 1) da_nil))) (de_callB (dcl_min rfl) Bt.min (da_cons (de_ix (de_var 0) de_int) (da_cons (de_var 2) da_nil)))))))
      (dss_one (ds_ret de_non))
      dss_nil)
      (dss_one (ds_ret (de_tup (da_cons (de_callB (dcl_max rfl) Bt.max (da_cons (de_ix (de_var 0) de_int) (da_cons (de_var 1) da_nil))) (da_cons (de_callB (dcl_min rfl) Bt.min (da_cons (de_ix (de_var 0) de_int) (da_cons (de_var 2) da_nil))) da_nil))))))⟩
abbrev s_cut : Stmt := top 33
def b_cut_1 : MS :=
    (sRet (eTup (aCons (eCall gMax (aCons (eVar 0) (aCons (eNeg (eC (.int 1000000))) aNil))) (aCons (eCall gMin (aCons (eVar 1) (aCons (eC (.int 1000000)) aNil))) aNil))))
def b_cut : MS :=
    sSeq (sIf (bOr (bOf (eBin (gB fun i j => decide (i < j)) (eVar 1) (eNeg (eC (.int 1000000))))) (bOf (eBin (gB fun i j => decide (j < i)) (eVar 0) (eC (.int 1000000)))))
    (sRet (eC .non))
    sNext) b_cut_1
def m_cut : MF := runD 2 b_cut
theorem sc_cut : FnScope ["_law_low", "_law_high"] ["_law_low", "_law_high"] (defScope s_cut) := ⟨rfl, rfl, rfl, by decide +kernel, rfl, by decide +kernel, by decide +kernel⟩
theorem ok_cut {P : Program} {w : World} {K : PySem.W.Frag} {mg : Str → Option Value} {base : Heap} {f : Addr} {fd : FuncData} (F : Fun K "_law_cut" "_law_cut" s_cut f fd) (Bt : Bts mg)  :
    FnOk P w K mg base CX0 1 f fd ["_law_low", "_law_high"] (spD K 2 m_cut) :=
  fn_ok F sc_cut fun X Z cdv A outer s H E hX hr hp => by
    subst hX
    exact ⟨[], (dss_cons (ds_if (dt_w (dw_or (dt_cmp dop_lt (de_var 1) (de_neg de_int)) (dw_or1 (dt_cmp dop_gt (de_var 0) de_int))))
      (dss_one (ds_ret de_non))
      dss_nil)
      (dss_one (ds_ret (de_tup (da_cons (de_callB (dcl_max rfl) Bt.max (da_cons (de_var 0) (da_cons (de_neg de_int) da_nil))) (da_cons (de_callB (dcl_min rfl) Bt.min (da_cons (de_var 1) (da_cons de_int da_nil))) da_nil))))))⟩
abbrev s_reach : Stmt := top 34
def b_reach_9 (m_reach : MF) : MS :=
    (sRet (eCall m_cut (aCons (eBin gIx (eVar 4) (eC (.int 0))) (aCons (eBin gIx (eVar 4) (eC (.int 3))) aNil))))
def b_reach_8 (m_reach : MF) : MS :=
    sSeq (sSet 4 (eSorted (eComp (iZipD (aCons (eBin gAdd (eVar 2) (eVar 2)) (aCons (eBin gAdd (eVar 3) (eTup (aCons (eBin gIx (eVar 3) (eC (.int 1))) (aCons (eBin gIx (eVar 3) (eC (.int 0))) aNil)))) aNil))) (gTupD 2 (gsCons (gPut 6) (gsCons (gPut 7) gsNil))) bYes (eBin gMulI (eVar 6) (eVar 7)) [6, 7]))) (b_reach_9 m_reach)
def b_reach_7 (m_reach : MF) : MS :=
    sSeq (sIf (bOf (eBin gEq (eBin gIx (eVar 0) (eC (.int 0))) (eC (.str "-"))))
    (sRet (eCall m_cut (aCons (eBin gMinus (eBin gIx (eVar 2) (eC (.int 0))) (eBin gIx (eVar 3) (eC (.int 1)))) (aCons (eBin gMinus (eBin gIx (eVar 2) (eC (.int 1))) (eBin gIx (eVar 3) (eC (.int 0)))) aNil))))
    sNext) (b_reach_8 m_reach)
def b_reach_6 (m_reach : MF) : MS :=
    sSeq (sIf (bOf (eBin gEq (eBin gIx (eVar 0) (eC (.int 0))) (eC (.str "+"))))
    (sRet (eCall m_cut (aCons (eBin gAdd (eBin gIx (eVar 2) (eC (.int 0))) (eBin gIx (eVar 3) (eC (.int 0)))) (aCons (eBin gAdd (eBin gIx (eVar 2) (eC (.int 1))) (eBin gIx (eVar 3) (eC (.int 1)))) aNil))))
    sNext) (b_reach_7 m_reach)
def b_reach_5 (m_reach : MF) : MS :=
    sSeq (sIf (bOf (eBin gEq (eBin gIx (eVar 0) (eC (.int 0))) (eC (.str "rest"))))
    (sSeq (sSet 5 (eBin gIx (eVar 0) (eC (.int 2))))
    (sSeq (sIf (bOf (eBin (gB fun i j => decide (j < i)) (eBin gDiv (eBin gIx (eVar 2) (eC (.int 1))) (eVar 5)) (eBin gDiv (eBin gIx (eVar 2) (eC (.int 0))) (eVar 5))))
    (sRet (eTup (aCons (eC (.int 0)) (aCons (eBin gMinus (eVar 5) (eC (.int 1))) aNil))))
    sNext)
    (sRet (eTup (aCons (eBin gMinus (eBin gIx (eVar 2) (eC (.int 0))) (eBin gMulI (eBin gDiv (eBin gIx (eVar 2) (eC (.int 0))) (eVar 5)) (eVar 5))) (aCons (eBin gMinus (eBin gIx (eVar 2) (eC (.int 1))) (eBin gMulI (eBin gDiv (eBin gIx (eVar 2) (eC (.int 0))) (eVar 5)) (eVar 5))) aNil))))))
    sNext) (b_reach_6 m_reach)
def b_reach_4 (m_reach : MF) : MS :=
    sSeq (sIf (bOr (bOf (eBin gIs (eVar 2) (eC .non))) (bOf (eBin gIs (eVar 3) (eC .non))))
    (sRet (eC .non))
    sNext) (b_reach_5 m_reach)
def b_reach_3 (m_reach : MF) : MS :=
    sSeq (sSet 3 (eCall m_reach (aCons (eBin gIx (eVar 0) (eC (.int 2))) (aCons (eVar 1) aNil)))) (b_reach_4 m_reach)
def b_reach_2 (m_reach : MF) : MS :=
    sSeq (sSet 2 (eCall m_reach (aCons (eBin gIx (eVar 0) (eC (.int 1))) (aCons (eVar 1) aNil)))) (b_reach_3 m_reach)
def b_reach_1 (m_reach : MF) : MS :=
    sSeq (sIf (bNot (bOf (eIsi .tuple (eVar 0))))
    (sRet (eTup (aCons (eVar 0) (aCons (eVar 0) aNil))))
    sNext) (b_reach_2 m_reach)
def b_reach (m_reach : MF) : MS :=
    sSeq (sIf (bOf (eIsi .str (eVar 0)))
    (sRet (eBin gDGet (eVar 1) (eVar 0)))
    sNext) (b_reach_1 m_reach)
def m_reach : Nat → MF
  | 0 => fun _ => none
  | n + 1 => runD 8 (b_reach (m_reach n))
theorem sc_reach : FnScope ["_law_part", "_law_known_here", "_law_one", "_law_other", "_law_four", "_law_by", "_law_x", "_law_y"] ["_law_part", "_law_known_here"] (defScope s_reach) := ⟨rfl, rfl, rfl, by decide +kernel, rfl, by decide +kernel, by decide +kernel⟩
theorem ok_reach {P : Program} {w : World} {K : PySem.W.Frag} {mg : Str → Option Value} {base : Heap} {f : Addr} {fd : FuncData} (F : Fun K "_law_reach" "_law_reach" s_reach f fd) (Bt : Bts mg) (d_cut : Df P w K mg base 1 "_law_cut" 2 m_cut) (hb : Binds K fd ["_law_part", "_law_known_here"] []) (hm : mg "_law_reach" = some (.ref f)) :
    ∀ n : Nat, FnOk P w K mg base CX0 (1 + n) f fd ["_law_part", "_law_known_here"] (spD K 2 (m_reach n))
  | 0 => fn_none
  | n + 1 =>
    have d_reach : Df P w K mg base (1 + n) "_law_reach" 2 (m_reach n) := df_of F hb hm (ok_reach F Bt d_cut hb hm n)
    have hge : 1 ≤ 1 + n := Nat.le_add_right _ _
    fn_ok F sc_reach fun X Z cdv A outer s H E hX hr hp => by
    subst hX
    exact ⟨[], (dss_cons (ds_if (dt_val (de_isi .str Bt.isinstance Bt.str (de_var 0)))
      (dss_one (ds_ret (de_dget hr (de_var 1) (de_var 0))))
      dss_nil)
      (dss_cons (ds_if (dt_not (dt_val (de_isi .tuple Bt.isinstance Bt.tuple (de_var 0))))
      (dss_one (ds_ret (de_tup (da_cons (de_var 0) (da_cons (de_var 0) da_nil)))))
      dss_nil)
      (dss_cons (ds_set (i := 2) sc_reach.nd (de_call d_reach hr (da_cons (de_ix (de_var 0) de_int) (da_cons (de_var 1) da_nil)) (hk := Nat.le_refl _)))
      (dss_cons (ds_set (i := 3) sc_reach.nd (de_call d_reach hr (da_cons (de_ix (de_var 0) de_int) (da_cons (de_var 1) da_nil)) (hk := Nat.le_refl _)))
      (dss_cons (ds_if (dt_w (dw_or (dt_cmp dop_is (de_var 2) de_non) (dw_or1 (dt_cmp dop_is (de_var 3) de_non))))
      (dss_one (ds_ret de_non))
      dss_nil)
      (dss_cons (ds_if (dt_cmp (dop_eq hr) (de_ix (de_var 0) de_int) de_str)
      (dss_cons (ds_set (i := 5) sc_reach.nd (de_ix (de_var 0) de_int))
      (dss_cons (ds_if (dt_cmp dop_gt (de_bin dop_div (de_ix (de_var 2) de_int) (de_var 5)) (de_bin dop_div (de_ix (de_var 2) de_int) (de_var 5)))
      (dss_one (ds_ret (de_tup (da_cons de_int (da_cons (de_bin dop_sub (de_var 5) de_int) da_nil)))))
      dss_nil)
      (dss_one (ds_ret (de_tup (da_cons (de_bin dop_sub (de_ix (de_var 2) de_int) (de_bin dop_mul (de_bin dop_div (de_ix (de_var 2) de_int) (de_var 5)) (de_var 5))) (da_cons (de_bin dop_sub (de_ix (de_var 2) de_int) (de_bin dop_mul (de_bin dop_div (de_ix (de_var 2) de_int) (de_var 5)) (de_var 5))) da_nil)))))))
      dss_nil)
      (dss_cons (ds_if (dt_cmp (dop_eq hr) (de_ix (de_var 0) de_int) de_str)
      (dss_one (ds_ret (de_call d_cut hr (da_cons (de_bin dop_add (de_ix (de_var 2) de_int) (de_ix (de_var 3) de_int)) (da_cons (de_bin dop_add (de_ix (de_var 2) de_int) (de_ix (de_var 3) de_int)) da_nil)) (hk := Nat.le_trans (by decide) hge))))
      dss_nil)
      (dss_cons (ds_if (dt_cmp (dop_eq hr) (de_ix (de_var 0) de_int) de_str)
      (dss_one (ds_ret (de_call d_cut hr (da_cons (de_bin dop_sub (de_ix (de_var 2) de_int) (de_ix (de_var 3) de_int)) (da_cons (de_bin dop_sub (de_ix (de_var 2) de_int) (de_ix (de_var 3) de_int)) da_nil)) (hk := Nat.le_trans (by decide) hge))))
      dss_nil)
      (dss_cons (ds_set (i := 4) sc_reach.nd ((df_sorted Bt.sorted ((df_lc [("_law_x", 6), ("_law_y", 7)] rfl sc_reach.nd (di_zip Bt.zip (da_cons (de_bin dop_add (de_var 2) (de_var 2)) (da_cons (de_bin dop_add (de_var 3) (de_tup (da_cons (de_ix (de_var 3) de_int) (da_cons (de_ix (de_var 3) de_int) da_nil)))) da_nil))) (blkOk_by (N := ["_law_part", "_law_known_here", "_law_one", "_law_other", "_law_four", "_law_by", "_law_x", "_law_y"]) (sc := defScope s_reach) (by decide +kernel)) (fun _ _ _ _ _ => (dg_tup rfl (dgs_cons (dg_name 6 sc_reach.nd) (dgs_cons (dg_name 7 sc_reach.nd) dgs_nil)))) (fun _ _ _ _ _ => dts_nil) (fun _ _ _ _ _ => (de_bin dop_mul (de_var 6) (de_var 7))))).de)).de)
      (dss_one (ds_ret (de_call d_cut hr (da_cons (de_ix (de_var 4) de_int) (da_cons (de_ix (de_var 4) de_int) da_nil)) (hk := Nat.le_trans (by decide) hge)))))))))))))⟩
abbrev s_side : Stmt := top 36
def b_side_4 : MS :=
    (sRet (eCall m_met (aCons (eVar 1) (aCons (eBin gAdd (eBin gIx (eVar 2) (eC (.int 0))) (eVar 4)) (aCons (eC (.int 1000000)) aNil)))))
def b_side_3 : MS :=
    sSeq (sIf (bOf (eVar 3))
    (sRet (eCall m_met (aCons (eVar 1) (aCons (eNeg (eC (.int 1000000))) (aCons (eBin gMinus (eBin gIx (eVar 2) (eC (.int 1))) (eVar 4)) aNil)))))
    sNext) b_side_4
def b_side_2 : MS :=
    sSeq (sSet 4 (eCall gInt (aCons (eBin gEq (eVar 0) (eC (.str "<"))) aNil))) b_side_3
def b_side_1 : MS :=
    sSeq (sIf (bOf (eBin gEq (eVar 0) (eC (.str "!="))))
    (sSeq (sIf (bOr (bOf (eBin gNe (eBin gIx (eVar 2) (eC (.int 0))) (eBin gIx (eVar 2) (eC (.int 1))))) (bOf (eBin gNotIn (eBin gIx (eVar 2) (eC (.int 0))) (eVar 1))))
    (sRet (eVar 1))
    sNext)
    (sRet (eCall m_met (aCons (eVar 1) (aCons (eBin gAdd (eBin gIx (eVar 1) (eC (.int 0))) (eCall gInt (aCons (eBin gEq (eBin gIx (eVar 1) (eC (.int 0))) (eBin gIx (eVar 2) (eC (.int 0)))) aNil))) (aCons (eBin gMinus (eBin gIx (eVar 1) (eC (.int 1))) (eCall gInt (aCons (eOr (eBin gNe (eBin gIx (eVar 1) (eC (.int 0))) (eBin gIx (eVar 2) (eC (.int 0)))) (eBin gEq (eBin gIx (eVar 1) (eC (.int 1))) (eBin gIx (eVar 1) (eC (.int 0))))) aNil))) aNil))))))
    sNext) b_side_2
def b_side : MS :=
    sSeq (sIf (bOf (eBin gEq (eVar 0) (eC (.str "="))))
    (sRet (eCall m_met (aCons (eVar 1) (aCons (eBin gIx (eVar 2) (eC (.int 0))) (aCons (eBin gIx (eVar 2) (eC (.int 1))) aNil)))))
    sNext) b_side_1
def m_side : MF := runD 5 b_side
theorem sc_side : FnScope ["_law_sign", "_law_own", "_law_other", "_law_first", "_law_step"] ["_law_sign", "_law_own", "_law_other", "_law_first"] (defScope s_side) := ⟨rfl, rfl, rfl, by decide +kernel, rfl, by decide +kernel, by decide +kernel⟩
theorem ok_side {P : Program} {w : World} {K : PySem.W.Frag} {mg : Str → Option Value} {base : Heap} {f : Addr} {fd : FuncData} (F : Fun K "_law_side" "_law_side" s_side f fd) (Bt : Bts mg) (d_met : Df P w K mg base 1 "_law_met" 3 m_met) :
    FnOk P w K mg base CX0 2 f fd ["_law_sign", "_law_own", "_law_other", "_law_first"] (spD K 4 m_side) :=
  fn_ok F sc_side fun X Z cdv A outer s H E hX hr hp => by
    subst hX
    exact ⟨[], (dss_cons (ds_if (dt_cmp (dop_eq hr) (de_var 0) de_str)
      (dss_one (ds_ret (de_call d_met hr (da_cons (de_var 1) (da_cons (de_ix (de_var 2) de_int) (da_cons (de_ix (de_var 2) de_int) da_nil))))))
      dss_nil)
      (dss_cons (ds_if (dt_cmp (dop_eq hr) (de_var 0) de_str)
      (dss_cons (ds_if (dt_w (dw_or (dt_cmp (dop_ne hr) (de_ix (de_var 2) de_int) (de_ix (de_var 2) de_int)) (dw_or1 (dt_cmp dop_notIn (de_ix (de_var 2) de_int) (de_var 1)))))
      (dss_one (ds_ret (de_var 1)))
      dss_nil)
      (dss_one (ds_ret (de_call d_met hr (da_cons (de_var 1) (da_cons (de_bin dop_add (de_ix (de_var 1) de_int) (de_callTy dcl_int Bt.int (da_cons (de_cmp (dop_eq hr) (de_ix (de_var 1) de_int) (de_ix (de_var 2) de_int)) da_nil))) (da_cons (de_bin dop_sub (de_ix (de_var 1) de_int) (de_callTy dcl_int Bt.int (da_cons (de_or (de_cmp (dop_ne hr) (de_ix (de_var 1) de_int) (de_ix (de_var 2) de_int)) (de_one (de_cmp (dop_eq hr) (de_ix (de_var 1) de_int) (de_ix (de_var 1) de_int)))) da_nil))) da_nil)))))))
      dss_nil)
      (dss_cons (ds_set (i := 4) sc_side.nd (de_callTy dcl_int Bt.int (da_cons (de_cmp (dop_eq hr) (de_var 0) de_str) da_nil)))
      (dss_cons (ds_if (dt_val (de_var 3))
      (dss_one (ds_ret (de_call d_met hr (da_cons (de_var 1) (da_cons (de_neg de_int) (da_cons (de_bin dop_sub (de_ix (de_var 2) de_int) (de_var 4)) da_nil))))))
      dss_nil)
      (dss_one (ds_ret (de_call d_met hr (da_cons (de_var 1) (da_cons (de_bin dop_add (de_ix (de_var 2) de_int) (de_var 4)) (da_cons de_int da_nil))))))))))⟩
abbrev s_kept : Stmt := top 37
def l_kept_1 : MS :=
    (sSeq (sIf (bOf (eBin gIs (eBin gIx (eVar 4) (eVar 6)) (eC .non)))
    (sRet (eC .non))
    sNext)
    (sIf (bOf (eIsi .str (eBin gIx (eVar 0) (eBin gAdd (eC (.int 1)) (eVar 6)))))
    (sSeq (sDPut 5 (eBin gIx (eVar 0) (eBin gAdd (eC (.int 1)) (eVar 6))) (eCall m_met (aCons (eBin gDGet (eVar 5) (eBin gIx (eVar 0) (eBin gAdd (eC (.int 1)) (eVar 6)))) (aCons (eBin gIx (eBin gIx (eVar 4) (eVar 6)) (eC (.int 0))) (aCons (eBin gIx (eBin gIx (eVar 4) (eVar 6)) (eC (.int 1))) aNil)))))
    (sIf (bOf (eBin gIs (eBin gDGet (eVar 5) (eBin gIx (eVar 0) (eBin gAdd (eC (.int 1)) (eVar 6)))) (eC .non)))
    (sRet (eC .non))
    sNext))
    sNext))
def b_kept_6 : MS :=
    (sRet (eVar 5))
def b_kept_5 : MS :=
    sSeq (sFor (iRange1 (eC (.int 2))) (gPut 6)
    l_kept_1) b_kept_6
def b_kept_4 : MS :=
    sSeq (sSet 5 (eDict (eVar 1))) b_kept_5
def b_kept_3 : MS :=
    sSeq (sSet 4 (eLst (aCons (eCall m_side (aCons (eBin gIx (eVar 0) (eC (.int 0))) (aCons (eVar 2) (aCons (eVar 3) (aCons (eC (.bl true)) aNil))))) (aCons (eCall m_side (aCons (eBin gIx (eVar 0) (eC (.int 0))) (aCons (eVar 3) (aCons (eVar 2) (aCons (eC (.bl false)) aNil))))) aNil)))) b_kept_4
def b_kept_2 : MS :=
    sSeq (sIf (bOr (bOf (eBin gIs (eVar 2) (eC .non))) (bOf (eBin gIs (eVar 3) (eC .non))))
    (sRet (eC .non))
    sNext) b_kept_3
def b_kept_1 : MS :=
    sSeq (sSet 3 (eCall (m_reach 6) (aCons (eBin gIx (eVar 0) (eC (.int 2))) (aCons (eVar 1) aNil)))) b_kept_2
def b_kept : MS :=
    sSeq (sSet 2 (eCall (m_reach 6) (aCons (eBin gIx (eVar 0) (eC (.int 1))) (aCons (eVar 1) aNil)))) b_kept_1
def m_kept : MF := runD 7 b_kept
theorem sc_kept : FnScope ["_law_told_here", "_law_known_here", "_law_left", "_law_right", "_law_ends", "_law_made", "_law_k"] ["_law_told_here", "_law_known_here"] (defScope s_kept) := ⟨rfl, rfl, rfl, by decide +kernel, rfl, by decide +kernel, by decide +kernel⟩
theorem ok_kept {P : Program} {w : World} {K : PySem.W.Frag} {mg : Str → Option Value} {base : Heap} {f : Addr} {fd : FuncData} (F : Fun K "_law_kept" "_law_kept" s_kept f fd) (Bt : Bts mg) (d_met : Df P w K mg base 1 "_law_met" 3 m_met) (d_reach : Df P w K mg base 7 "_law_reach" 2 (m_reach 6)) (d_side : Df P w K mg base 2 "_law_side" 4 m_side) :
    FnOk P w K mg base CX0 8 f fd ["_law_told_here", "_law_known_here"] (spD K 2 m_kept) :=
  fn_ok F sc_kept fun X Z cdv A outer s H E hX hr hp => by
    subst hX
    exact ⟨[], (dss_cons (ds_set (i := 2) sc_kept.nd (de_call d_reach hr (da_cons (de_ix (de_var 0) de_int) (da_cons (de_var 1) da_nil))))
      (dss_cons (ds_set (i := 3) sc_kept.nd (de_call d_reach hr (da_cons (de_ix (de_var 0) de_int) (da_cons (de_var 1) da_nil))))
      (dss_cons (ds_if (dt_w (dw_or (dt_cmp dop_is (de_var 2) de_non) (dw_or1 (dt_cmp dop_is (de_var 3) de_non))))
      (dss_one (ds_ret de_non))
      dss_nil)
      (dss_cons (ds_set (i := 4) sc_kept.nd ((df_lst (da_cons (de_call d_side hr (da_cons (de_ix (de_var 0) de_int) (da_cons (de_var 2) (da_cons (de_var 3) (da_cons de_bl da_nil))))) (da_cons (de_call d_side hr (da_cons (de_ix (de_var 0) de_int) (da_cons (de_var 3) (da_cons (de_var 2) (da_cons de_bl da_nil))))) da_nil)))).de)
      (dss_cons (ds_own (i := 5) sc_kept.nd (df_dict Bt.dict (de_var 1)))
      (dss_cons (ds_for hp rfl (di_range1 Bt.range de_int) (dg_name 6 sc_kept.nd)
      (dss_cons (ds_if (dt_cmp dop_is (de_ix (de_var 4) (de_var 6)) de_non)
      (dss_one (ds_ret de_non))
      dss_nil)
      (dss_one (ds_if (dt_val (de_isi .str Bt.isinstance Bt.str (de_ix (de_var 0) (de_bin dop_add de_int (de_var 6)))))
      (dss_cons (ds_dput (i := 5) hr (de_ix (de_var 0) (de_bin dop_add de_int (de_var 6))) (de_call d_met hr (da_cons (de_oget (i := 5) hr (de_ix (de_var 0) (de_bin dop_add de_int (de_var 6)))) (da_cons (de_ix (de_ix (de_var 4) (de_var 6)) de_int) (da_cons (de_ix (de_ix (de_var 4) (de_var 6)) de_int) da_nil)))))
      (dss_one (ds_if (dt_cmp dop_is (de_oget (i := 5) hr (de_ix (de_var 0) (de_bin dop_add de_int (de_var 6)))) de_non)
      (dss_one (ds_ret de_non))
      dss_nil)))
      dss_nil))))
      (dss_free 5 rfl (dss_one (ds_ret (de_var 5))))))))))⟩
abbrev s_whole : Stmt := top 26
def b_whole : MS :=
    (sRet (eAnd (eIsi .int (eVar 0)) (eNot (eIsi .bool (eVar 0)))))
def m_whole : MF := runD 1 b_whole
theorem sc_whole : FnScope ["_law_found"] ["_law_found"] (defScope s_whole) := ⟨rfl, rfl, rfl, by decide +kernel, rfl, by decide +kernel, by decide +kernel⟩
theorem ok_whole {P : Program} {w : World} {K : PySem.W.Frag} {mg : Str → Option Value} {base : Heap} {f : Addr} {fd : FuncData} (F : Fun K "_law_whole" "_law_whole" s_whole f fd) (Bt : Bts mg)  :
    FnOk P w K mg base CX0 1 f fd ["_law_found"] (spD K 1 m_whole) :=
  fn_ok F sc_whole fun X Z cdv A outer s H E hX hr hp => by
    subst hX
    exact ⟨[], (dss_one (ds_ret (de_and (de_isi .int Bt.isinstance Bt.int (de_var 0)) (de_one (de_not (de_isi .bool Bt.isinstance Bt.bool (de_var 0)))))))⟩
abbrev s_is_stretch : Stmt := top 27
def b_is_stretch_1 : MS :=
    (sRet (eAnd (eCall m_whole (aCons (eBin gIx (eVar 0) (eC (.int 0))) aNil)) (eCall m_whole (aCons (eBin gIx (eVar 0) (eC (.int 1))) aNil))))
def b_is_stretch : MS :=
    sSeq (sIf (bOr (bNot (bOf (eIsi .tuple (eVar 0)))) (bOf (eBin gNe (eCall gLen (aCons (eVar 0) aNil)) (eC (.int 2)))))
    (sRet (eC (.bl false)))
    sNext) b_is_stretch_1
def m_is_stretch : MF := runD 1 b_is_stretch
theorem sc_is_stretch : FnScope ["_law_found"] ["_law_found"] (defScope s_is_stretch) := ⟨rfl, rfl, rfl, by decide +kernel, rfl, by decide +kernel, by decide +kernel⟩
theorem ok_is_stretch {P : Program} {w : World} {K : PySem.W.Frag} {mg : Str → Option Value} {base : Heap} {f : Addr} {fd : FuncData} (F : Fun K "_law_is_stretch" "_law_is_stretch" s_is_stretch f fd) (Bt : Bts mg) (d_whole : Df P w K mg base 1 "_law_whole" 1 m_whole) :
    FnOk P w K mg base CX0 2 f fd ["_law_found"] (spD K 1 m_is_stretch) :=
  fn_ok F sc_is_stretch fun X Z cdv A outer s H E hX hr hp => by
    subst hX
    exact ⟨[], (dss_cons (ds_if (dt_w (dw_or (dt_not (dt_val (de_isi .tuple Bt.isinstance Bt.tuple (de_var 0)))) (dw_or1 (dt_cmp (dop_ne hr) (de_callB dcl_len Bt.len (da_cons (de_var 0) da_nil)) de_int))))
      (dss_one (ds_ret de_bl))
      dss_nil)
      (dss_one (ds_ret (de_and (de_call d_whole hr (da_cons (de_ix (de_var 0) de_int) da_nil)) (de_one (de_call d_whole hr (da_cons (de_ix (de_var 0) de_int) da_nil)))))))⟩
abbrev s_same_dict : Stmt := top 39
def l_same_dict_1 : MS :=
    (sIf (bNot (bOf (eCall m_is_stretch (aCons (eBin gDGet (eVar 0) (eVar 2)) aNil))))
    (sRet (eC (.bl false)))
    sNext)
def b_same_dict_2 : MS :=
    (sRet (eC (.bl true)))
def b_same_dict_1 : MS :=
    sSeq (sFor (iKeysD (eVar 1)) (gPut 2)
    l_same_dict_1) b_same_dict_2
def b_same_dict : MS :=
    sSeq (sIf (bOr (bNot (bOf (eIsi .dict (eVar 0)))) (bOf (eBin gNeDD (eVar 0) (eVar 1))))
    (sRet (eC (.bl false)))
    sNext) b_same_dict_1
def m_same_dict : MF := runD 3 b_same_dict
theorem sc_same_dict : FnScope ["_law_found", "_law_due", "_law_name"] ["_law_found", "_law_due"] (defScope s_same_dict) := ⟨rfl, rfl, rfl, by decide +kernel, rfl, by decide +kernel, by decide +kernel⟩
theorem ok_same_dict {P : Program} {w : World} {K : PySem.W.Frag} {mg : Str → Option Value} {base : Heap} {f : Addr} {fd : FuncData} (F : Fun K "_law_same_dict" "_law_same_dict" s_same_dict f fd) (Bt : Bts mg) (d_is_stretch : Df P w K mg base 2 "_law_is_stretch" 1 m_is_stretch) :
    FnOk P w K mg base CX0 3 f fd ["_law_found", "_law_due"] (spD K 2 m_same_dict) :=
  fn_ok F sc_same_dict fun X Z cdv A outer s H E hX hr hp => by
    subst hX
    exact ⟨[], (dss_cons (ds_if (dt_w (dw_or (dt_not (dt_val (de_isi .dict Bt.isinstance Bt.dict (de_var 0)))) (dw_or1 (dt_cmp (dop_neDD hr) (de_var 0) (de_var 1)))))
      (dss_one (ds_ret de_bl))
      dss_nil)
      (dss_cons (ds_walk 1 hp rfl (fun _ => (dg_name 2 sc_same_dict.nd))
      (fun _ => (dss_one (ds_if (dt_not (dt_val (de_call d_is_stretch hr (da_cons (de_dget hr (de_var 0) (de_var 2)) da_nil))))
      (dss_one (ds_ret de_bl))
      dss_nil))))
      (dss_one (ds_ret de_bl))))⟩
abbrev s_p_met : Stmt := top 7
def b_p_met_4 : MS :=
    (sRet (eTup (aCons (eVar 2) (aCons (eVar 3) aNil))))
def b_p_met_3 : MS :=
    sSeq (sIf (bOf (eBin (gB fun i j => decide (j < i)) (eVar 2) (eVar 3)))
    (sRet (eC .non))
    sNext) b_p_met_4
def b_p_met_2 : MS :=
    sSeq (sSet 3 (eCall gMin (aCons (eBin gIx (eVar 0) (eC (.int 1))) (aCons (eBin gIx (eVar 1) (eC (.int 1))) aNil)))) b_p_met_3
def b_p_met_1 : MS :=
    sSeq (sSet 2 (eCall gMax (aCons (eBin gIx (eVar 0) (eC (.int 0))) (aCons (eBin gIx (eVar 1) (eC (.int 0))) aNil)))) b_p_met_2
def b_p_met : MS :=
    sSeq (sIf (bOr (bOf (eBin gIs (eVar 0) (eC .non))) (bOf (eBin gIs (eVar 1) (eC .non))))
    (sRet (eC .non))
    sNext) b_p_met_1
def m_p_met : MF := runD 4 b_p_met
theorem sc_p_met : FnScope ["one", "other", "low", "high"] ["one", "other"] (defScope s_p_met) := ⟨rfl, rfl, rfl, by decide +kernel, rfl, by decide +kernel, by decide +kernel⟩
theorem ok_p_met {P : Program} {w : World} {K : PySem.W.Frag} {mg : Str → Option Value} {base : Heap} {f : Addr} {fd : FuncData} (F : Fun K "met" "met" s_p_met f fd) (Bt : Bts mg)  :
    FnOk P w K mg base CX0 1 f fd ["one", "other"] (spD K 2 m_p_met) :=
  fn_ok F sc_p_met fun X Z cdv A outer s H E hX hr hp => by
    subst hX
    exact ⟨[], (dss_cons (ds_if (dt_w (dw_or (dt_cmp dop_is (de_var 0) de_non) (dw_or1 (dt_cmp dop_is (de_var 1) de_non))))
      (dss_one (ds_ret de_non))
      dss_nil)
      (dss_cons (ds_set (i := 2) sc_p_met.nd (de_callB (dcl_max rfl) Bt.max (da_cons (de_ix (de_var 0) de_int) (da_cons (de_ix (de_var 1) de_int) da_nil))))
      (dss_cons (ds_set (i := 3) sc_p_met.nd (de_callB (dcl_min rfl) Bt.min (da_cons (de_ix (de_var 0) de_int) (da_cons (de_ix (de_var 1) de_int) da_nil))))
      (dss_cons (ds_if (dt_cmp dop_gt (de_var 2) (de_var 3))
      (dss_one (ds_ret de_non))
      dss_nil)
      (dss_one (ds_ret (de_tup (da_cons (de_var 2) (da_cons (de_var 3) da_nil)))))))))⟩
abbrev s_p_can_hold : Stmt := top 10
def b_p_can_hold_3 : MS :=
    (sRet (eOr (eBin gNe (eBin gIx (eVar 1) (eC (.int 0))) (eBin gIx (eVar 1) (eC (.int 1)))) (eBin gNe (eVar 1) (eVar 2))))
def b_p_can_hold_2 : MS :=
    sSeq (sIf (bOf (eBin gEq (eVar 0) (eC (.str "="))))
    (sRet (eBin gIsNot (eCall m_p_met (aCons (eVar 1) (aCons (eVar 2) aNil))) (eC .non)))
    sNext) b_p_can_hold_3
def b_p_can_hold_1 : MS :=
    sSeq (sIf (bOf (eBin gEq (eVar 0) (eC (.str "<="))))
    (sRet (eBin (gB fun i j => decide (i ≤ j)) (eBin gIx (eVar 1) (eC (.int 0))) (eBin gIx (eVar 2) (eC (.int 1)))))
    sNext) b_p_can_hold_2
def b_p_can_hold : MS :=
    sSeq (sIf (bOf (eBin gEq (eVar 0) (eC (.str "<"))))
    (sRet (eBin (gB fun i j => decide (i < j)) (eBin gIx (eVar 1) (eC (.int 0))) (eBin gIx (eVar 2) (eC (.int 1)))))
    sNext) b_p_can_hold_1
def m_p_can_hold : MF := runD 3 b_p_can_hold
theorem sc_p_can_hold : FnScope ["sign", "left", "right"] ["sign", "left", "right"] (defScope s_p_can_hold) := ⟨rfl, rfl, rfl, by decide +kernel, rfl, by decide +kernel, by decide +kernel⟩
theorem ok_p_can_hold {P : Program} {w : World} {K : PySem.W.Frag} {mg : Str → Option Value} {base : Heap} {f : Addr} {fd : FuncData} (F : Fun K "can_hold" "can_hold" s_p_can_hold f fd) (Bt : Bts mg) (d_p_met : Df P w K mg base 1 "met" 2 m_p_met) :
    FnOk P w K mg base CX0 2 f fd ["sign", "left", "right"] (spD K 3 m_p_can_hold) :=
  fn_ok F sc_p_can_hold fun X Z cdv A outer s H E hX hr hp => by
    subst hX
    exact ⟨[], (dss_cons (ds_if (dt_cmp (dop_eq hr) (de_var 0) de_str)
      (dss_one (ds_ret (de_cmp dop_lt (de_ix (de_var 1) de_int) (de_ix (de_var 2) de_int))))
      dss_nil)
      (dss_cons (ds_if (dt_cmp (dop_eq hr) (de_var 0) de_str)
      (dss_one (ds_ret (de_cmp dop_le (de_ix (de_var 1) de_int) (de_ix (de_var 2) de_int))))
      dss_nil)
      (dss_cons (ds_if (dt_cmp (dop_eq hr) (de_var 0) de_str)
      (dss_one (ds_ret (de_cmp dop_isNot (de_call d_p_met hr (da_cons (de_var 1) (da_cons (de_var 2) da_nil))) de_non)))
      dss_nil)
      (dss_one (ds_ret (de_or (de_cmp (dop_ne hr) (de_ix (de_var 1) de_int) (de_ix (de_var 1) de_int)) (de_one (de_cmp (dop_ne hr) (de_var 1) (de_var 2)))))))))⟩
abbrev s_p_without : Stmt := top 11
def b_p_without_2 : MS :=
    (sRet (eVar 0))
def b_p_without_1 : MS :=
    sSeq (sIf (bOf (eBin gEq (eVar 1) (eTup (aCons (eBin gIx (eVar 0) (eC (.int 1))) (aCons (eBin gIx (eVar 0) (eC (.int 1))) aNil)))))
    (sRet (eTup (aCons (eBin gIx (eVar 0) (eC (.int 0))) (aCons (eBin gMinus (eBin gIx (eVar 0) (eC (.int 1))) (eC (.int 1))) aNil))))
    sNext) b_p_without_2
def b_p_without : MS :=
    sSeq (sIf (bOf (eBin gEq (eVar 1) (eTup (aCons (eBin gIx (eVar 0) (eC (.int 0))) (aCons (eBin gIx (eVar 0) (eC (.int 0))) aNil)))))
    (sRet (eTup (aCons (eBin gAdd (eBin gIx (eVar 0) (eC (.int 0))) (eC (.int 1))) (aCons (eBin gIx (eVar 0) (eC (.int 1))) aNil))))
    sNext) b_p_without_1
def m_p_without : MF := runD 2 b_p_without
theorem sc_p_without : FnScope ["one", "other"] ["one", "other"] (defScope s_p_without) := ⟨rfl, rfl, rfl, by decide +kernel, rfl, by decide +kernel, by decide +kernel⟩
theorem ok_p_without {P : Program} {w : World} {K : PySem.W.Frag} {mg : Str → Option Value} {base : Heap} {f : Addr} {fd : FuncData} (F : Fun K "without" "without" s_p_without f fd) (Bt : Bts mg)  :
    FnOk P w K mg base CX0 1 f fd ["one", "other"] (spD K 2 m_p_without) :=
  fn_ok F sc_p_without fun X Z cdv A outer s H E hX hr hp => by
    subst hX
    exact ⟨[], (dss_cons (ds_if (dt_cmp (dop_eq hr) (de_var 1) (de_tup (da_cons (de_ix (de_var 0) de_int) (da_cons (de_ix (de_var 0) de_int) da_nil))))
      (dss_one (ds_ret (de_tup (da_cons (de_bin dop_add (de_ix (de_var 0) de_int) de_int) (da_cons (de_ix (de_var 0) de_int) da_nil)))))
      dss_nil)
      (dss_cons (ds_if (dt_cmp (dop_eq hr) (de_var 1) (de_tup (da_cons (de_ix (de_var 0) de_int) (da_cons (de_ix (de_var 0) de_int) da_nil))))
      (dss_one (ds_ret (de_tup (da_cons (de_ix (de_var 0) de_int) (da_cons (de_bin dop_sub (de_ix (de_var 0) de_int) de_int) da_nil)))))
      dss_nil)
      (dss_one (ds_ret (de_var 0)))))⟩
abbrev s_p_narrowed : Stmt := top 12
def b_p_narrowed_3 : MS :=
    (sRet (eTup (aCons (eCall m_p_without (aCons (eVar 1) (aCons (eVar 2) aNil))) (aCons (eCall m_p_without (aCons (eVar 2) (aCons (eVar 1) aNil))) aNil))))
def b_p_narrowed_2 : MS :=
    sSeq (sIf (bOf (eBin gEq (eVar 0) (eC (.str "="))))
    (sRet (eTup (aCons (eVar 2) (aCons (eVar 1) aNil))))
    sNext) b_p_narrowed_3
def b_p_narrowed_1 : MS :=
    sSeq (sIf (bOf (eBin gEq (eVar 0) (eC (.str "<="))))
    (sRet (eTup (aCons (eTup (aCons (eBin gIx (eVar 1) (eC (.int 0))) (aCons (eBin gIx (eVar 2) (eC (.int 1))) aNil))) (aCons (eTup (aCons (eBin gIx (eVar 1) (eC (.int 0))) (aCons (eBin gIx (eVar 2) (eC (.int 1))) aNil))) aNil))))
    sNext) b_p_narrowed_2
def b_p_narrowed : MS :=
    sSeq (sIf (bOf (eBin gEq (eVar 0) (eC (.str "<"))))
    (sRet (eTup (aCons (eTup (aCons (eBin gIx (eVar 1) (eC (.int 0))) (aCons (eBin gMinus (eBin gIx (eVar 2) (eC (.int 1))) (eC (.int 1))) aNil))) (aCons (eTup (aCons (eBin gAdd (eBin gIx (eVar 1) (eC (.int 0))) (eC (.int 1))) (aCons (eBin gIx (eVar 2) (eC (.int 1))) aNil))) aNil))))
    sNext) b_p_narrowed_1
def m_p_narrowed : MF := runD 3 b_p_narrowed
theorem sc_p_narrowed : FnScope ["sign", "left", "right"] ["sign", "left", "right"] (defScope s_p_narrowed) := ⟨rfl, rfl, rfl, by decide +kernel, rfl, by decide +kernel, by decide +kernel⟩
theorem ok_p_narrowed {P : Program} {w : World} {K : PySem.W.Frag} {mg : Str → Option Value} {base : Heap} {f : Addr} {fd : FuncData} (F : Fun K "narrowed" "narrowed" s_p_narrowed f fd) (Bt : Bts mg) (d_p_without : Df P w K mg base 1 "without" 2 m_p_without) :
    FnOk P w K mg base CX0 2 f fd ["sign", "left", "right"] (spD K 3 m_p_narrowed) :=
  fn_ok F sc_p_narrowed fun X Z cdv A outer s H E hX hr hp => by
    subst hX
    exact ⟨[], (dss_cons (ds_if (dt_cmp (dop_eq hr) (de_var 0) de_str)
      (dss_one (ds_ret (de_tup (da_cons (de_tup (da_cons (de_ix (de_var 1) de_int) (da_cons (de_bin dop_sub (de_ix (de_var 2) de_int) de_int) da_nil))) (da_cons (de_tup (da_cons (de_bin dop_add (de_ix (de_var 1) de_int) de_int) (da_cons (de_ix (de_var 2) de_int) da_nil))) da_nil)))))
      dss_nil)
      (dss_cons (ds_if (dt_cmp (dop_eq hr) (de_var 0) de_str)
      (dss_one (ds_ret (de_tup (da_cons (de_tup (da_cons (de_ix (de_var 1) de_int) (da_cons (de_ix (de_var 2) de_int) da_nil))) (da_cons (de_tup (da_cons (de_ix (de_var 1) de_int) (da_cons (de_ix (de_var 2) de_int) da_nil))) da_nil)))))
      dss_nil)
      (dss_cons (ds_if (dt_cmp (dop_eq hr) (de_var 0) de_str)
      (dss_one (ds_ret (de_tup (da_cons (de_var 2) (da_cons (de_var 1) da_nil)))))
      dss_nil)
      (dss_one (ds_ret (de_tup (da_cons (de_call d_p_without hr (da_cons (de_var 1) (da_cons (de_var 2) da_nil))) (da_cons (de_call d_p_without hr (da_cons (de_var 2) (da_cons (de_var 1) da_nil))) da_nil))))))))⟩
abbrev s_p_cut : Stmt := top 2
def b_p_cut : MS :=
    (sRet (eCall m_p_met (aCons (eTup (aCons (eVar 0) (aCons (eVar 1) aNil))) (aCons (eTup (aCons (eNeg (eC (.int 1000000))) (aCons (eC (.int 1000000)) aNil))) aNil))))
def m_p_cut : MF := runD 2 b_p_cut
theorem sc_p_cut : FnScope ["low", "high"] ["low", "high"] (defScope s_p_cut) := ⟨rfl, rfl, rfl, by decide +kernel, rfl, by decide +kernel, by decide +kernel⟩
theorem ok_p_cut {P : Program} {w : World} {K : PySem.W.Frag} {mg : Str → Option Value} {base : Heap} {f : Addr} {fd : FuncData} (F : Fun K "cut" "cut" s_p_cut f fd) (Bt : Bts mg) (d_p_met : Df P w K mg base 1 "met" 2 m_p_met) (c_LIMIT : ∃ t, mg "LIMIT" = some (.int 1000000 t)) :
    FnOk P w K mg base CX0 2 f fd ["low", "high"] (spD K 2 m_p_cut) :=
  fn_ok F sc_p_cut fun X Z cdv A outer s H E hX hr hp => by
    subst hX
    exact ⟨[], (dss_one (ds_ret (de_call d_p_met hr (da_cons (de_tup (da_cons (de_var 0) (da_cons (de_var 1) da_nil))) (da_cons (de_tup (da_cons (de_neg (de_gint c_LIMIT)) (da_cons (de_gint c_LIMIT) da_nil))) da_nil)))))⟩
abbrev s_p_minus : Stmt := top 4
def b_p_minus : MS :=
    (sRet (eCall m_p_cut (aCons (eBin gMinus (eBin gIx (eVar 0) (eC (.int 0))) (eBin gIx (eVar 1) (eC (.int 1)))) (aCons (eBin gMinus (eBin gIx (eVar 0) (eC (.int 1))) (eBin gIx (eVar 1) (eC (.int 0)))) aNil))))
def m_p_minus : MF := runD 2 b_p_minus
theorem sc_p_minus : FnScope ["one", "other"] ["one", "other"] (defScope s_p_minus) := ⟨rfl, rfl, rfl, by decide +kernel, rfl, by decide +kernel, by decide +kernel⟩
theorem ok_p_minus {P : Program} {w : World} {K : PySem.W.Frag} {mg : Str → Option Value} {base : Heap} {f : Addr} {fd : FuncData} (F : Fun K "minus" "minus" s_p_minus f fd) (Bt : Bts mg) (d_p_cut : Df P w K mg base 2 "cut" 2 m_p_cut) :
    FnOk P w K mg base CX0 3 f fd ["one", "other"] (spD K 2 m_p_minus) :=
  fn_ok F sc_p_minus fun X Z cdv A outer s H E hX hr hp => by
    subst hX
    exact ⟨[], (dss_one (ds_ret (de_call d_p_cut hr (da_cons (de_bin dop_sub (de_ix (de_var 0) de_int) (de_ix (de_var 1) de_int)) (da_cons (de_bin dop_sub (de_ix (de_var 0) de_int) (de_ix (de_var 1) de_int)) da_nil)))))⟩
abbrev s_p_plus : Stmt := top 3
def b_p_plus : MS :=
    (sRet (eCall m_p_cut (aCons (eBin gAdd (eBin gIx (eVar 0) (eC (.int 0))) (eBin gIx (eVar 1) (eC (.int 0)))) (aCons (eBin gAdd (eBin gIx (eVar 0) (eC (.int 1))) (eBin gIx (eVar 1) (eC (.int 1)))) aNil))))
def m_p_plus : MF := runD 2 b_p_plus
theorem sc_p_plus : FnScope ["one", "other"] ["one", "other"] (defScope s_p_plus) := ⟨rfl, rfl, rfl, by decide +kernel, rfl, by decide +kernel, by decide +kernel⟩
theorem ok_p_plus {P : Program} {w : World} {K : PySem.W.Frag} {mg : Str → Option Value} {base : Heap} {f : Addr} {fd : FuncData} (F : Fun K "plus" "plus" s_p_plus f fd) (Bt : Bts mg) (d_p_cut : Df P w K mg base 2 "cut" 2 m_p_cut) :
    FnOk P w K mg base CX0 3 f fd ["one", "other"] (spD K 2 m_p_plus) :=
  fn_ok F sc_p_plus fun X Z cdv A outer s H E hX hr hp => by
    subst hX
    exact ⟨[], (dss_one (ds_ret (de_call d_p_cut hr (da_cons (de_bin dop_add (de_ix (de_var 0) de_int) (de_ix (de_var 1) de_int)) (da_cons (de_bin dop_add (de_ix (de_var 0) de_int) (de_ix (de_var 1) de_int)) da_nil)))))⟩
abbrev s_p_rest : Stmt := top 6
def b_p_rest_3 : MS :=
    (sRet (eTup (aCons (eC (.int 0)) (aCons (eBin gMinus (eVar 1) (eC (.int 1))) aNil))))
def b_p_rest_2 : MS :=
    sSeq (sIf (bOf (eBin gEq (eBin gDiv (eVar 2) (eVar 1)) (eBin gDiv (eVar 3) (eVar 1))))
    (sRet (eTup (aCons (eBin gMod (eVar 2) (eVar 1)) (aCons (eBin gMod (eVar 3) (eVar 1)) aNil))))
    sNext) b_p_rest_3
def b_p_rest_1 : MS :=
    sSeq (sAsg (eVar 0) (gTupD 2 (gsCons (gPut 2) (gsCons (gPut 3) gsNil)))) b_p_rest_2
def b_p_rest : MS :=
    sSeq (sIf (bOf (eBin (gB fun i j => decide (i < j)) (eVar 1) (eC (.int 1))))
    (sRet (eC .non))
    sNext) b_p_rest_1
def m_p_rest : MF := runD 4 b_p_rest
theorem sc_p_rest : FnScope ["one", "by", "low", "high"] ["one", "by"] (defScope s_p_rest) := ⟨rfl, rfl, rfl, by decide +kernel, rfl, by decide +kernel, by decide +kernel⟩
theorem ok_p_rest {P : Program} {w : World} {K : PySem.W.Frag} {mg : Str → Option Value} {base : Heap} {f : Addr} {fd : FuncData} (F : Fun K "rest" "rest" s_p_rest f fd) (Bt : Bts mg)  :
    FnOk P w K mg base CX0 1 f fd ["one", "by"] (spD K 2 m_p_rest) :=
  fn_ok F sc_p_rest fun X Z cdv A outer s H E hX hr hp => by
    subst hX
    exact ⟨[], (dss_cons (ds_if (dt_cmp dop_lt (de_var 1) de_int)
      (dss_one (ds_ret de_non))
      dss_nil)
      (dss_cons (ds_asg (de_var 0) (dg_tup rfl (dgs_cons (dg_name 2 sc_p_rest.nd) (dgs_cons (dg_name 3 sc_p_rest.nd) dgs_nil))))
      (dss_cons (ds_if (dt_cmp (dop_eq hr) (de_bin dop_div (de_var 2) (de_var 1)) (de_bin dop_div (de_var 3) (de_var 1)))
      (dss_one (ds_ret (de_tup (da_cons (de_bin dop_mod (de_var 2) (de_var 1)) (da_cons (de_bin dop_mod (de_var 3) (de_var 1)) da_nil)))))
      dss_nil)
      (dss_one (ds_ret (de_tup (da_cons de_int (da_cons (de_bin dop_sub (de_var 1) de_int) da_nil))))))))⟩
abbrev s_p_times : Stmt := top 5
def b_p_times_1 : MS :=
    (sRet (eCall m_p_cut (aCons (eCall gMin (aCons (eVar 2) aNil)) (aCons (eCall gMax (aCons (eVar 2) aNil)) aNil))))
def b_p_times : MS :=
    sSeq (sSet 2 (eComp2 (iTupD (eVar 0)) (gPut 3) bYes [3, 4] (iTupD (eVar 1)) (gPut 4) bYes [4] (eBin gMulI (eVar 3) (eVar 4)))) b_p_times_1
def m_p_times : MF := runD 5 b_p_times
theorem sc_p_times : FnScope ["one", "other", "products", "left", "right"] ["one", "other"] (defScope s_p_times) := ⟨rfl, rfl, rfl, by decide +kernel, rfl, by decide +kernel, by decide +kernel⟩
theorem ok_p_times {P : Program} {w : World} {K : PySem.W.Frag} {mg : Str → Option Value} {base : Heap} {f : Addr} {fd : FuncData} (F : Fun K "times" "times" s_p_times f fd) (Bt : Bts mg) (d_p_cut : Df P w K mg base 2 "cut" 2 m_p_cut) :
    FnOk P w K mg base CX0 3 f fd ["one", "other"] (spD K 2 m_p_times) :=
  fn_ok F sc_p_times fun X Z cdv A outer s H E hX hr hp => by
    subst hX
    exact ⟨[], (dss_cons (ds_setF (i := 2) (ps_lcF2 (i := 2) [("left", 3), ("right", 4)] [4] rfl sc_p_times.nd (di_tup (de_var 0)) (blkOk_by (N := ["one", "other", "products", "left", "right"]) (sc := defScope s_p_times) (by decide +kernel)) (fun _ _ _ _ _ => (dg_name 3 sc_p_times.nd)) (fun _ _ _ _ _ => dts_nil) (fun _ _ _ _ _ => (di_tup (de_var 1))) (fun _ _ _ _ _ => (dg_name 4 sc_p_times.nd)) (fun _ _ _ _ _ => dts_nil) (fun _ _ _ _ _ => (de_bin dop_mul (de_var 3) (de_var 4))) (sw_true rfl rfl rfl (by decide +kernel))))
      (dss_one (ds_ret (de_call d_p_cut hr (da_cons (de_callB (dcl_min rfl) Bt.min (da_cons (de_var 2) da_nil)) (da_cons (de_callB (dcl_max rfl) Bt.max (da_cons (de_var 2) da_nil)) da_nil))))))⟩
abbrev s_p_reach : Stmt := top 9
def b_p_reach_10 (m_p_reach : MF) : MS :=
    (sRet (eCall m_p_times (aCons (eVar 2) (aCons (eVar 3) aNil))))
def b_p_reach_9 (m_p_reach : MF) : MS :=
    sSeq (sIf (bOf (eBin gEq (eVar 4) (eC (.str "-"))))
    (sRet (eCall m_p_minus (aCons (eVar 2) (aCons (eVar 3) aNil))))
    sNext) (b_p_reach_10 m_p_reach)
def b_p_reach_8 (m_p_reach : MF) : MS :=
    sSeq (sIf (bOf (eBin gEq (eVar 4) (eC (.str "+"))))
    (sRet (eCall m_p_plus (aCons (eVar 2) (aCons (eVar 3) aNil))))
    sNext) (b_p_reach_9 m_p_reach)
def b_p_reach_7 (m_p_reach : MF) : MS :=
    sSeq (sIf (bOf (eBin gIs (eVar 3) (eC .non)))
    (sRet (eC .non))
    sNext) (b_p_reach_8 m_p_reach)
def b_p_reach_6 (m_p_reach : MF) : MS :=
    sSeq (sSet 3 (eCall m_p_reach (aCons (eVar 6) (aCons (eVar 1) aNil)))) (b_p_reach_7 m_p_reach)
def b_p_reach_5 (m_p_reach : MF) : MS :=
    sSeq (sIf (bOf (eBin gEq (eVar 4) (eC (.str "rest"))))
    (sRet (eCall m_p_rest (aCons (eVar 2) (aCons (eVar 6) aNil))))
    sNext) (b_p_reach_6 m_p_reach)
def b_p_reach_4 (m_p_reach : MF) : MS :=
    sSeq (sIf (bOf (eBin gIs (eVar 2) (eC .non)))
    (sRet (eC .non))
    sNext) (b_p_reach_5 m_p_reach)
def b_p_reach_3 (m_p_reach : MF) : MS :=
    sSeq (sSet 2 (eCall m_p_reach (aCons (eVar 5) (aCons (eVar 1) aNil)))) (b_p_reach_4 m_p_reach)
def b_p_reach_2 (m_p_reach : MF) : MS :=
    sSeq (sAsg (eVar 0) (gTupD 3 (gsCons (gPut 4) (gsCons (gPut 5) (gsCons (gPut 6) gsNil))))) (b_p_reach_3 m_p_reach)
def b_p_reach_1 (m_p_reach : MF) : MS :=
    sSeq (sIf (bOf (eIsi .str (eVar 0)))
    (sRet (eBin gDGet (eVar 1) (eVar 0)))
    sNext) (b_p_reach_2 m_p_reach)
def b_p_reach (m_p_reach : MF) : MS :=
    sSeq (sIf (bOf (eIsi .int (eVar 0)))
    (sRet (eTup (aCons (eVar 0) (aCons (eVar 0) aNil))))
    sNext) (b_p_reach_1 m_p_reach)
def m_p_reach : Nat → MF
  | 0 => fun _ => none
  | n + 1 => runD 7 (b_p_reach (m_p_reach n))
theorem sc_p_reach : FnScope ["expression", "known", "left", "right", "sign", "first", "second"] ["expression", "known"] (defScope s_p_reach) := ⟨rfl, rfl, rfl, by decide +kernel, rfl, by decide +kernel, by decide +kernel⟩
theorem ok_p_reach {P : Program} {w : World} {K : PySem.W.Frag} {mg : Str → Option Value} {base : Heap} {f : Addr} {fd : FuncData} (F : Fun K "reach" "reach" s_p_reach f fd) (Bt : Bts mg) (d_p_minus : Df P w K mg base 3 "minus" 2 m_p_minus) (d_p_plus : Df P w K mg base 3 "plus" 2 m_p_plus) (d_p_rest : Df P w K mg base 1 "rest" 2 m_p_rest) (d_p_times : Df P w K mg base 3 "times" 2 m_p_times) (hb : Binds K fd ["expression", "known"] []) (hm : mg "reach" = some (.ref f)) :
    ∀ n : Nat, FnOk P w K mg base CX0 (3 + n) f fd ["expression", "known"] (spD K 2 (m_p_reach n))
  | 0 => fn_none
  | n + 1 =>
    have d_p_reach : Df P w K mg base (3 + n) "reach" 2 (m_p_reach n) := df_of F hb hm (ok_p_reach F Bt d_p_minus d_p_plus d_p_rest d_p_times hb hm n)
    have hge : 3 ≤ 3 + n := Nat.le_add_right _ _
    fn_ok F sc_p_reach fun X Z cdv A outer s H E hX hr hp => by
    subst hX
    exact ⟨[], (dss_cons (ds_if (dt_val (de_isi .int Bt.isinstance Bt.int (de_var 0)))
      (dss_one (ds_ret (de_tup (da_cons (de_var 0) (da_cons (de_var 0) da_nil)))))
      dss_nil)
      (dss_cons (ds_if (dt_val (de_isi .str Bt.isinstance Bt.str (de_var 0)))
      (dss_one (ds_ret (de_dget hr (de_var 1) (de_var 0))))
      dss_nil)
      (dss_cons (ds_asg (de_var 0) (dg_tup rfl (dgs_cons (dg_name 4 sc_p_reach.nd) (dgs_cons (dg_name 5 sc_p_reach.nd) (dgs_cons (dg_name 6 sc_p_reach.nd) dgs_nil)))))
      (dss_cons (ds_set (i := 2) sc_p_reach.nd (de_call d_p_reach hr (da_cons (de_var 5) (da_cons (de_var 1) da_nil)) (hk := Nat.le_refl _)))
      (dss_cons (ds_if (dt_cmp dop_is (de_var 2) de_non)
      (dss_one (ds_ret de_non))
      dss_nil)
      (dss_cons (ds_if (dt_cmp (dop_eq hr) (de_var 4) de_str)
      (dss_one (ds_ret (de_call d_p_rest hr (da_cons (de_var 2) (da_cons (de_var 6) da_nil)) (hk := Nat.le_trans (by decide) hge))))
      dss_nil)
      (dss_cons (ds_set (i := 3) sc_p_reach.nd (de_call d_p_reach hr (da_cons (de_var 6) (da_cons (de_var 1) da_nil)) (hk := Nat.le_refl _)))
      (dss_cons (ds_if (dt_cmp dop_is (de_var 3) de_non)
      (dss_one (ds_ret de_non))
      dss_nil)
      (dss_cons (ds_if (dt_cmp (dop_eq hr) (de_var 4) de_str)
      (dss_one (ds_ret (de_call d_p_plus hr (da_cons (de_var 2) (da_cons (de_var 3) da_nil)) (hk := Nat.le_trans (by decide) hge))))
      dss_nil)
      (dss_cons (ds_if (dt_cmp (dop_eq hr) (de_var 4) de_str)
      (dss_one (ds_ret (de_call d_p_minus hr (da_cons (de_var 2) (da_cons (de_var 3) da_nil)) (hk := Nat.le_trans (by decide) hge))))
      dss_nil)
      (dss_one (ds_ret (de_call d_p_times hr (da_cons (de_var 2) (da_cons (de_var 3) da_nil)) (hk := Nat.le_trans (by decide) hge))))))))))))))⟩
abbrev s_p_kept : Stmt := top 13
def l_p_kept_1 : MS :=
    (sIf (bOf (eIsi .str (eVar 10)))
    (sSeq (sDPut 4 (eVar 10) (eCall m_p_met (aCons (eBin gDGet (eVar 4) (eVar 10)) (aCons (eVar 11) aNil))))
    (sIf (bOf (eBin gIs (eBin gDGet (eVar 4) (eVar 10)) (eC .non)))
    (sRetN (eC .non))
    sNext))
    sNext)
def b_p_kept_7 : MS :=
    (sRet (eVar 4))
def b_p_kept_6 : MS :=
    sSeq (sFor (iTupD (eTup (aCons (eTup (aCons (eVar 6) (aCons (eVar 8) aNil))) (aCons (eTup (aCons (eVar 7) (aCons (eVar 9) aNil))) aNil)))) (gTupD 2 (gsCons (gPut 10) (gsCons (gPut 11) gsNil)))
    l_p_kept_1) b_p_kept_7
def b_p_kept_5 : MS :=
    sSeq (sSet 4 (eDict (eVar 1))) b_p_kept_6
def b_p_kept_4 : MS :=
    sSeq (sAsg (eCall m_p_narrowed (aCons (eVar 5) (aCons (eVar 2) (aCons (eVar 3) aNil)))) (gTupD 2 (gsCons (gPut 8) (gsCons (gPut 9) gsNil)))) b_p_kept_5
def b_p_kept_3 : MS :=
    sSeq (sIf (bOr (bOf (eBin gIs (eVar 2) (eC .non))) (bOr (bOf (eBin gIs (eVar 3) (eC .non))) (bNot (bOf (eCall m_p_can_hold (aCons (eVar 5) (aCons (eVar 2) (aCons (eVar 3) aNil))))))))
    (sRetN (eC .non))
    sNext) b_p_kept_4
def b_p_kept_2 : MS :=
    sSeq (sSet 3 (eCall (m_p_reach 6) (aCons (eVar 7) (aCons (eVar 1) aNil)))) b_p_kept_3
def b_p_kept_1 : MS :=
    sSeq (sSet 2 (eCall (m_p_reach 6) (aCons (eVar 6) (aCons (eVar 1) aNil)))) b_p_kept_2
def b_p_kept : MS :=
    sSeq (sAsg (eVar 0) (gTupD 3 (gsCons (gPut 5) (gsCons (gPut 6) (gsCons (gPut 7) gsNil))))) b_p_kept_1
def m_p_kept : MF := runD 12 b_p_kept
theorem sc_p_kept : FnScope ["condition", "known", "of_left", "of_right", "found", "sign", "left", "right", "for_left", "for_right", "side", "stretch"] ["condition", "known"] (defScope s_p_kept) := ⟨rfl, rfl, rfl, by decide +kernel, rfl, by decide +kernel, by decide +kernel⟩
theorem ok_p_kept {P : Program} {w : World} {K : PySem.W.Frag} {mg : Str → Option Value} {base : Heap} {f : Addr} {fd : FuncData} (F : Fun K "kept" "kept" s_p_kept f fd) (Bt : Bts mg) (d_p_can_hold : Df P w K mg base 2 "can_hold" 3 m_p_can_hold) (d_p_met : Df P w K mg base 1 "met" 2 m_p_met) (d_p_narrowed : Df P w K mg base 2 "narrowed" 3 m_p_narrowed) (d_p_reach : Df P w K mg base 9 "reach" 2 (m_p_reach 6)) :
    FnOk P w K mg base CX0 10 f fd ["condition", "known"] (spF K 2 m_p_kept) :=
  fn_okF F sc_p_kept fun X Z cdv A outer s H E hX hr hp => by
    subst hX
    exact ⟨[], (dss_cons (ds_asg (de_var 0) (dg_tup rfl (dgs_cons (dg_name 5 sc_p_kept.nd) (dgs_cons (dg_name 6 sc_p_kept.nd) (dgs_cons (dg_name 7 sc_p_kept.nd) dgs_nil)))))
      (dss_cons (ds_set (i := 2) sc_p_kept.nd (de_call d_p_reach hr (da_cons (de_var 6) (da_cons (de_var 1) da_nil))))
      (dss_cons (ds_set (i := 3) sc_p_kept.nd (de_call d_p_reach hr (da_cons (de_var 7) (da_cons (de_var 1) da_nil))))
      (dss_cons (ds_if (dt_w (dw_or (dt_cmp dop_is (de_var 2) de_non) (dw_or (dt_cmp dop_is (de_var 3) de_non) (dw_or1 (dt_not (dt_val (de_call d_p_can_hold hr (da_cons (de_var 5) (da_cons (de_var 2) (da_cons (de_var 3) da_nil))))))))))
      (dss_one (ds_retN de_non))
      dss_nil)
      (dss_cons (ds_asg (de_call d_p_narrowed hr (da_cons (de_var 5) (da_cons (de_var 2) (da_cons (de_var 3) da_nil)))) (dg_tup rfl (dgs_cons (dg_name 8 sc_p_kept.nd) (dgs_cons (dg_name 9 sc_p_kept.nd) dgs_nil))))
      (dss_cons (ds_own (i := 4) sc_p_kept.nd (df_dict Bt.dict (de_var 1)))
      (dss_cons (ds_for hp rfl (di_tup (de_tup (da_cons (de_tup (da_cons (de_var 6) (da_cons (de_var 8) da_nil))) (da_cons (de_tup (da_cons (de_var 7) (da_cons (de_var 9) da_nil))) da_nil)))) (dg_tup rfl (dgs_cons (dg_name 10 sc_p_kept.nd) (dgs_cons (dg_name 11 sc_p_kept.nd) dgs_nil)))
      (dss_one (ds_if (dt_val (de_isi .str Bt.isinstance Bt.str (de_var 10)))
      (dss_cons (ds_dput (i := 4) hr (de_var 10) (de_call d_p_met hr (da_cons (de_oget (i := 4) hr (de_var 10)) (da_cons (de_var 11) da_nil))))
      (dss_one (ds_if (dt_cmp dop_is (de_oget (i := 4) hr (de_var 10)) de_non)
      (dss_one (ds_retN de_non))
      dss_nil)))
      dss_nil)))
      (dss_one (ds_retO 4)))))))))⟩
abbrev s_good : Stmt := top 41
def l_good_1 : MS :=
    (sIf (bNot (bOf (eChain (gB fun i j => decide (i ≤ j)) (gB fun i j => decide (i ≤ j)) (eBin gIx (eBin gDGet (eVar 3) (eVar 5)) (eC (.int 0))) (eBin gDGet (eVar 2) (eVar 5)) (eBin gIx (eBin gDGet (eVar 3) (eVar 5)) (eC (.int 1))))))
    (sRet (eC (.bl false)))
    sNext)
def l_good_2 : MS :=
    (sIf (bNot (bOf (eChain (gB fun i j => decide (i ≤ j)) (gB fun i j => decide (i ≤ j)) (eBin gIx (eBin gDGet (eVar 3) (eVar 5)) (eC (.int 0))) (eBin gDGet (eVar 2) (eVar 5)) (eBin gIx (eBin gDGet (eVar 3) (eVar 5)) (eC (.int 1))))))
    (sRet (eC (.bl false)))
    sNext)
def b_good : MS :=
    (sMaybe 3 (eCall m_p_kept (aCons (eVar 0) (aCons (eVar 1) aNil)))
    (sSeq (sSet 4 (eCall m_kept (aCons (eVar 0) (aCons (eVar 1) aNil))))
    (sSeq (sIf (bOr (bAnd (bOf (eBin gIs (eVar 4) (eC .non))) (bOf (eBin gIsNot (eVar 3) (eC .non)))) (bAnd (bOf (eBin gIsNot (eVar 4) (eC .non))) (bNot (bOf (eCall m_same_dict (aCons (eVar 3) (aCons (eVar 4) aNil)))))))
    (sRet (eC (.bl false)))
    sNext)
    (sSeq (sIf (bNot (bTru (eCall m_holds (aCons (eVar 0) (aCons (eVar 2) aNil)))))
    (sRet (eC (.bl true)))
    sNext)
    (sSeq (sIf (bOf (eBin gIs (eVar 3) (eC .non)))
    (sRet (eC (.bl false)))
    sNext)
    (sSeq (sFor (iKeysD (eVar 2)) (gPut 5)
    l_good_1)
    (sSeq sNo
    (sRet (eC (.bl true)))))))))
    (sSeq (sSet 4 (eCall m_kept (aCons (eVar 0) (aCons (eVar 1) aNil))))
    (sSeq (sIf (bOr (bAnd (bOf (eBin gIs (eVar 4) (eC .non))) (bOf (eBin gIsNot (eVar 3) (eC .non)))) (bAnd (bOf (eBin gIsNot (eVar 4) (eC .non))) (bNot (bOf (eCall m_same_dict (aCons (eVar 3) (aCons (eVar 4) aNil)))))))
    (sRet (eC (.bl false)))
    sNext)
    (sSeq (sIf (bNot (bTru (eCall m_holds (aCons (eVar 0) (aCons (eVar 2) aNil)))))
    (sRet (eC (.bl true)))
    sNext)
    (sSeq (sIf (bOf (eBin gIs (eVar 3) (eC .non)))
    (sRet (eC (.bl false)))
    sNext)
    (sSeq (sFor (iKeysD (eVar 2)) (gPut 5)
    l_good_2)
    (sSeq (sClr 3)
    (sRet (eC (.bl true))))))))))
def m_good : MF := runD 6 b_good
theorem sc_good : FnScope ["_law_told_here", "_law_known_here", "_law_held_here", "_law_found", "_law_due", "_law_name"] ["_law_told_here", "_law_known_here", "_law_held_here"] (defScope s_good) := ⟨rfl, rfl, rfl, by decide +kernel, rfl, by decide +kernel, by decide +kernel⟩
theorem ok_good {P : Program} {w : World} {K : PySem.W.Frag} {mg : Str → Option Value} {base : Heap} {f : Addr} {fd : FuncData} (F : Fun K "_law_good" "_law_good" s_good f fd) (Bt : Bts mg) (d_holds : Df P w K mg base 7 "_law_holds" 2 m_holds) (d_kept : Df P w K mg base 8 "_law_kept" 2 m_kept) (d_same_dict : Df P w K mg base 3 "_law_same_dict" 2 m_same_dict) (d_p_kept : DfF P w K mg base 10 "kept" 2 m_p_kept) :
    FnOk P w K mg base CX0 11 f fd ["_law_told_here", "_law_known_here", "_law_held_here"] (spD K 3 m_good) :=
  fn_ok F sc_good fun X Z cdv A outer s H E hX hr hp => by
    subst hX
    exact ⟨[], (dss_maybe (i := 3) sc_good.nd (dfn_call d_p_kept hr (da_cons (de_var 0) (da_cons (de_var 1) da_nil)))
      (dss_cons (ds_set (i := 4) sc_good.nd (de_call d_kept hr (da_cons (de_var 0) (da_cons (de_var 1) da_nil))))
      (dss_cons (ds_if (dt_w (dw_or (dt_w (dw_and (dt_cmp dop_is (de_var 4) de_non) (dw_and1 (dt_cmp dop_isNot (de_var 3) de_non)))) (dw_or1 (dt_w (dw_and (dt_cmp dop_isNot (de_var 4) de_non) (dw_and1 (dt_not (dt_val (de_call d_same_dict hr (da_cons (de_var 3) (da_cons (de_var 4) da_nil)))))))))))
      (dss_one (ds_ret de_bl))
      dss_nil)
      (dss_cons (ds_if (dt_not (dt_tru (de_call d_holds hr (da_cons (de_var 0) (da_cons (de_var 2) da_nil)))))
      (dss_one (ds_ret de_bl))
      dss_nil)
      (dss_cons (ds_if (dt_cmp dop_is (de_var 3) de_non)
      (dss_one (ds_ret de_bl))
      dss_nil)
      (dss_cons (ds_walk 2 hp rfl (fun _ => (dg_name 5 sc_good.nd))
      (fun _ => (dss_one (ds_if (dt_not (dt_chain dop_le dop_le (de_ix (de_dget hr (de_var 3) (de_var 5)) de_int) (de_dget hr (de_var 2) (de_var 5)) (de_ix (de_dget hr (de_var 3) (de_var 5)) de_int)))
      (dss_one (ds_ret de_bl))
      dss_nil))))
      (dss_cons (ds_never (own' := []))
      (dss_one (ds_ret de_bl))))))))
      (dss_cons (ds_set (i := 4) sc_good.nd (de_call d_kept hr (da_cons (de_var 0) (da_cons (de_var 1) da_nil))))
      (dss_cons (ds_if (dt_lend (own' := []) 3 (dt_w (dw_or (dt_w (dw_and (dt_cmp dop_is (de_var 4) de_non) (dw_and1 (dt_cmp dop_isNot (de_var 3) de_non)))) (dw_or1 (dt_w (dw_and (dt_cmp dop_isNot (de_var 4) de_non) (dw_and1 (dt_not (dt_val (de_call d_same_dict hr (da_cons (de_var 3) (da_cons (de_var 4) da_nil))))))))))))
      (dss_one (ds_ret de_bl))
      dss_nil)
      (dss_cons (ds_if (dt_not (dt_tru (de_call d_holds hr (da_cons (de_var 0) (da_cons (de_var 2) da_nil)))))
      (dss_one (ds_ret de_bl))
      dss_nil)
      (dss_cons (ds_if (dt_lend (own' := []) 3 (dt_cmp dop_is (de_var 3) de_non))
      (dss_one (ds_ret de_bl))
      dss_nil)
      (dss_cons (ds_walk 2 hp rfl (fun _ => (dg_name 5 sc_good.nd))
      (fun _ => (dss_one (ds_if (dt_not (dt_chain dop_le dop_le (de_ix (de_oget (i := 3) hr (de_var 5)) de_int) (de_dget hr (de_var 2) (de_var 5)) (de_ix (de_oget (i := 3) hr (de_var 5)) de_int)))
      (dss_one (ds_ret de_bl))
      dss_nil))))
      (dss_cons (ds_clear (i := 3))
      (dss_one (ds_ret de_bl)))))))))⟩
abbrev s_one_of : Stmt := top 31
def b_one_of_1 : MS :=
    (sRet (eBin gAdd (eBin gIx (eVar 0) (eC (.int 0))) (eBin gMod (eBin gDiv (eVar 1) (eC (.int 4))) (eBin gAdd (eBin gMinus (eBin gIx (eVar 0) (eC (.int 1))) (eBin gIx (eVar 0) (eC (.int 0)))) (eC (.int 1))))))
def b_one_of : MS :=
    sSeq (sIf (bOf (eBin (gB fun i j => decide (i < j)) (eBin gMod (eVar 1) (eC (.int 4))) (eC (.int 2))))
    (sRet (eBin gIx (eVar 0) (eBin gMod (eVar 1) (eC (.int 4)))))
    sNext) b_one_of_1
def m_one_of : MF := runD 2 b_one_of
theorem sc_one_of : FnScope ["_law_stretch_here", "_law_x"] ["_law_stretch_here", "_law_x"] (defScope s_one_of) := ⟨rfl, rfl, rfl, by decide +kernel, rfl, by decide +kernel, by decide +kernel⟩
theorem ok_one_of {P : Program} {w : World} {K : PySem.W.Frag} {mg : Str → Option Value} {base : Heap} {f : Addr} {fd : FuncData} (F : Fun K "_law_one_of" "_law_one_of" s_one_of f fd) (Bt : Bts mg)  :
    FnOk P w K mg base CX0 1 f fd ["_law_stretch_here", "_law_x"] (spD K 2 m_one_of) :=
  fn_ok F sc_one_of fun X Z cdv A outer s H E hX hr hp => by
    subst hX
    exact ⟨[], (dss_cons (ds_if (dt_cmp dop_lt (de_bin dop_mod (de_var 1) de_int) de_int)
      (dss_one (ds_ret (de_ix (de_var 0) (de_bin dop_mod (de_var 1) de_int))))
      dss_nil)
      (dss_one (ds_ret (de_bin dop_add (de_ix (de_var 0) de_int) (de_bin dop_mod (de_bin dop_div (de_var 1) de_int) (de_bin dop_add (de_bin dop_sub (de_ix (de_var 0) de_int) (de_ix (de_var 0) de_int)) de_int))))))⟩
abbrev s_held : Stmt := top 32
def l_held_1 : MS :=
    (sSeq (sSet 1 (eBin gMod (eBin gAdd (eBin gAdd (eBin gMulI (eVar 1) (eVar 1)) (eBin gMulI (eC (.int 48271)) (eVar 1))) (eC (.int 11))) (eC (.int 2147483647))))
    (sDPut 2 (eVar 3) (eCall m_one_of (aCons (eBin gDGet (eVar 0) (eVar 3)) (aCons (eVar 1) aNil)))))
def b_held_2 : MS :=
    (sRet (eVar 2))
def b_held_1 : MS :=
    sSeq (sFor (iKeysD (eVar 0)) (gPut 3)
    l_held_1) b_held_2
def b_held : MS :=
    sSeq (sSet 2 (eC (.dct []))) b_held_1
def m_held : MF := runD 4 b_held
theorem sc_held : FnScope ["_law_known_here", "_law_x", "_law_held_here", "_law_name"] ["_law_known_here", "_law_x"] (defScope s_held) := ⟨rfl, rfl, rfl, by decide +kernel, rfl, by decide +kernel, by decide +kernel⟩
theorem ok_held {P : Program} {w : World} {K : PySem.W.Frag} {mg : Str → Option Value} {base : Heap} {f : Addr} {fd : FuncData} (F : Fun K "_law_held" "_law_held" s_held f fd) (Bt : Bts mg) (d_one_of : Df P w K mg base 1 "_law_one_of" 2 m_one_of) :
    FnOk P w K mg base CX0 2 f fd ["_law_known_here", "_law_x"] (spD K 2 m_held) :=
  fn_ok F sc_held fun X Z cdv A outer s H E hX hr hp => by
    subst hX
    exact ⟨[], (dss_cons (ds_own (i := 2) sc_held.nd df_dnew)
      (dss_cons (ds_walk 0 hp rfl (fun _ => (dg_name 3 sc_held.nd))
      (fun _ => (dss_cons (ds_set (i := 1) sc_held.nd (de_bin dop_mod (de_bin dop_add (de_bin dop_add (de_bin dop_mul (de_var 1) (de_var 1)) (de_bin dop_mul de_int (de_var 1))) de_int) de_int))
      (dss_one (ds_dput (i := 2) hr (de_var 3) (de_call d_one_of hr (da_cons (de_dget hr (de_var 0) (de_var 3)) (da_cons (de_var 1) da_nil))))))))
      (dss_free 2 rfl (dss_one (ds_ret (de_var 2))))))⟩
abbrev s_stream : Stmt := top 17
def l_stream_1 : MS :=
    (sSeq (sSet 3 (eBin gMod (eBin gAdd (eBin gAdd (eBin gMulI (eVar 3) (eVar 3)) (eBin gMulI (eC (.int 48271)) (eVar 3))) (eVar 4)) (eC (.int 2147483647))))
    (sApp 2 (eVar 3)))
def b_stream_3 : MS :=
    (sRet (eSl (eVar 2) (oSome (eC (.int 1))) oNone))
def b_stream_2 : MS :=
    sSeq (sFor (iRange1 (eBin gAdd (eVar 1) (eC (.int 1)))) (gPut 4)
    l_stream_1) b_stream_3
def b_stream_1 : MS :=
    sSeq (sSet 3 (eBin gAdd (eBin gMod (eVar 0) (eC (.int 2147483647))) (eC (.int 48271)))) b_stream_2
def b_stream : MS :=
    sSeq (sSet 2 (eLst aNil)) b_stream_1
def m_stream : MF := runD 5 b_stream
theorem sc_stream : FnScope ["_law_cell", "_law_many", "_law_found", "_law_number_here", "_law_k"] ["_law_cell", "_law_many"] (defScope s_stream) := ⟨rfl, rfl, rfl, by decide +kernel, rfl, by decide +kernel, by decide +kernel⟩
theorem ok_stream {P : Program} {w : World} {K : PySem.W.Frag} {mg : Str → Option Value} {base : Heap} {f : Addr} {fd : FuncData} (F : Fun K "_law_stream" "_law_stream" s_stream f fd) (Bt : Bts mg)  :
    FnOk P w K mg base CX0 1 f fd ["_law_cell", "_law_many"] (spD K 2 m_stream) :=
  fn_ok F sc_stream fun X Z cdv A outer s H E hX hr hp => by
    subst hX
    exact ⟨[], (dss_cons (ds_own (i := 2) sc_stream.nd (df_lst da_nil))
      (dss_cons (ds_set (i := 3) sc_stream.nd (de_bin dop_add (de_bin dop_mod (de_var 0) de_int) de_int))
      (dss_cons (ds_for hp rfl (di_range1 Bt.range (de_bin dop_add (de_var 1) de_int)) (dg_name 4 sc_stream.nd)
      (dss_cons (ds_set (i := 3) sc_stream.nd (de_bin dop_mod (de_bin dop_add (de_bin dop_add (de_bin dop_mul (de_var 3) (de_var 3)) (de_bin dop_mul de_int (de_var 3))) (de_var 4)) de_int))
      (dss_one (ds_app (i := 2) (de_var 3)))))
      (dss_free 2 rfl (dss_one (ds_ret (de_slice (de_var 2) (dp_some de_int) dp_none)))))))⟩
abbrev s_number : Stmt := top 18
def b_number_2 : MS :=
    (sRet (eBin gIx (eVar 1) (eCall gMin (aCons (eC (.int 2)) (aCons (eBin gMinus (eBin gMod (eVar 0) (eC (.int 8))) (eC (.int 4))) aNil)))))
def b_number_1 : MS :=
    sSeq (sSet 1 (eLst (aCons (eBin gMinus (eBin gMod (eBin gDiv (eVar 0) (eC (.int 8))) (eC (.int 2000001))) (eC (.int 1000000))) (aCons (eBin gIx (eLst (aCons (eC (.int 1000000)) (aCons (eNeg (eC (.int 1000000))) (aCons (eC (.int 999999)) (aCons (eNeg (eC (.int 999999))) aNil))))) (eBin gMod (eBin gDiv (eVar 0) (eC (.int 8))) (eC (.int 4)))) (aCons (eBin gMinus (eBin gMod (eBin gDiv (eVar 0) (eC (.int 8))) (eC (.int 2001))) (eC (.int 1000))) aNil))))) b_number_2
def b_number : MS :=
    sSeq (sIf (bOf (eBin (gB fun i j => decide (i < j)) (eBin gMod (eVar 0) (eC (.int 8))) (eC (.int 4))))
    (sRet (eBin gMinus (eBin gMod (eBin gDiv (eVar 0) (eC (.int 8))) (eC (.int 27))) (eC (.int 6))))
    sNext) b_number_1
def m_number : MF := runD 2 b_number
theorem sc_number : FnScope ["_law_x", "_law_far"] ["_law_x"] (defScope s_number) := ⟨rfl, rfl, rfl, by decide +kernel, rfl, by decide +kernel, by decide +kernel⟩
theorem ok_number {P : Program} {w : World} {K : PySem.W.Frag} {mg : Str → Option Value} {base : Heap} {f : Addr} {fd : FuncData} (F : Fun K "_law_number" "_law_number" s_number f fd) (Bt : Bts mg)  :
    FnOk P w K mg base CX0 1 f fd ["_law_x"] (spD K 1 m_number) :=
  fn_ok F sc_number fun X Z cdv A outer s H E hX hr hp => by
    subst hX
    exact ⟨[], (dss_cons (ds_if (dt_cmp dop_lt (de_bin dop_mod (de_var 0) de_int) de_int)
      (dss_one (ds_ret (de_bin dop_sub (de_bin dop_mod (de_bin dop_div (de_var 0) de_int) de_int) de_int)))
      dss_nil)
      (dss_cons (ds_set (i := 1) sc_number.nd ((df_lst (da_cons (de_bin dop_sub (de_bin dop_mod (de_bin dop_div (de_var 0) de_int) de_int) de_int) (da_cons (de_ix ((df_lst (da_cons de_int (da_cons (de_neg de_int) (da_cons de_int (da_cons (de_neg de_int) da_nil)))))).de (de_bin dop_mod (de_bin dop_div (de_var 0) de_int) de_int)) (da_cons (de_bin dop_sub (de_bin dop_mod (de_bin dop_div (de_var 0) de_int) de_int) de_int) da_nil))))).de)
      (dss_one (ds_ret (de_ix (de_var 1) (de_callB (dcl_min rfl) Bt.min (da_cons de_int (da_cons (de_bin dop_sub (de_bin dop_mod (de_var 0) de_int) de_int) da_nil))))))))⟩
abbrev s_stretch : Stmt := top 29
def b_stretch_2 : MS :=
    (sRet (eTup (aCons (eVar 2) (aCons (eCall gMin (aCons (eC (.int 1000000)) (aCons (eVar 3) aNil))) aNil))))
def b_stretch_1 : MS :=
    sSeq (sSet 3 (eBin gAdd (eVar 2) (eBin gIx (eLst (aCons (eC (.int 0)) (aCons (eBin gMod (eBin gDiv (eVar 1) (eC (.int 4))) (eC (.int 9))) (aCons (eBin gMod (eBin gDiv (eVar 1) (eC (.int 4))) (eC (.int 3000))) (aCons (eBin gMod (eBin gDiv (eVar 1) (eC (.int 4))) (eC (.int 2000001))) aNil))))) (eBin gMod (eVar 1) (eC (.int 4)))))) b_stretch_2
def b_stretch : MS :=
    sSeq (sSet 2 (eCall m_number (aCons (eVar 0) aNil))) b_stretch_1
def m_stretch : MF := runD 4 b_stretch
theorem sc_stretch : FnScope ["_law_x", "_law_y", "_law_low", "_law_high"] ["_law_x", "_law_y"] (defScope s_stretch) := ⟨rfl, rfl, rfl, by decide +kernel, rfl, by decide +kernel, by decide +kernel⟩
theorem ok_stretch {P : Program} {w : World} {K : PySem.W.Frag} {mg : Str → Option Value} {base : Heap} {f : Addr} {fd : FuncData} (F : Fun K "_law_stretch" "_law_stretch" s_stretch f fd) (Bt : Bts mg) (d_number : Df P w K mg base 1 "_law_number" 1 m_number) :
    FnOk P w K mg base CX0 2 f fd ["_law_x", "_law_y"] (spD K 2 m_stretch) :=
  fn_ok F sc_stretch fun X Z cdv A outer s H E hX hr hp => by
    subst hX
    exact ⟨[], (dss_cons (ds_set (i := 2) sc_stretch.nd (de_call d_number hr (da_cons (de_var 0) da_nil)))
      (dss_cons (ds_set (i := 3) sc_stretch.nd (de_bin dop_add (de_var 2) (de_ix ((df_lst (da_cons de_int (da_cons (de_bin dop_mod (de_bin dop_div (de_var 1) de_int) de_int) (da_cons (de_bin dop_mod (de_bin dop_div (de_var 1) de_int) de_int) (da_cons (de_bin dop_mod (de_bin dop_div (de_var 1) de_int) de_int) da_nil)))))).de (de_bin dop_mod (de_var 1) de_int))))
      (dss_one (ds_ret (de_tup (da_cons (de_var 2) (da_cons (de_callB (dcl_min rfl) Bt.min (da_cons de_int (da_cons (de_var 3) da_nil))) da_nil)))))))⟩
abbrev s_known : Stmt := top 30
def l_known_1 : MS :=
    (sSeq (sSet 4 (eCall m_stream (aCons (eBin gAdd (eBin gIx (eVar 0) (eC (.int 0))) (eBin gMulI (eC (.int 7)) (eVar 3))) (aCons (eC (.int 2)) aNil))))
    (sSeq (sDPut 2 (eBin gIx (eVar 1) (eVar 3)) (eCall m_stretch (aCons (eBin gIx (eVar 4) (eC (.int 0))) (aCons (eBin gIx (eVar 4) (eC (.int 1))) aNil))))
    (sIf (bOf (eBin gEq (eBin gMod (eBin gDiv (eBin gIx (eVar 4) (eC (.int 0))) (eC (.int 8))) (eC (.int 5))) (eC (.int 0))))
    (sDPut 2 (eBin gIx (eVar 1) (eVar 3)) (eBin gDGet (eVar 2) (eBin gIx (eVar 1) (eC (.int 0)))))
    sNext)))
def b_known_2 : MS :=
    (sRet (eVar 2))
def b_known_1 : MS :=
    sSeq (sFor (iRange1 (eCall gLen (aCons (eVar 1) aNil))) (gPut 3)
    l_known_1) b_known_2
def b_known : MS :=
    sSeq (sSet 2 (eC (.dct []))) b_known_1
def m_known : MF := runD 5 b_known
theorem sc_known : FnScope ["_law_xs", "_law_names_here", "_law_known_here", "_law_k", "_law_ys"] ["_law_xs", "_law_names_here"] (defScope s_known) := ⟨rfl, rfl, rfl, by decide +kernel, rfl, by decide +kernel, by decide +kernel⟩
theorem ok_known {P : Program} {w : World} {K : PySem.W.Frag} {mg : Str → Option Value} {base : Heap} {f : Addr} {fd : FuncData} (F : Fun K "_law_known" "_law_known" s_known f fd) (Bt : Bts mg) (d_stream : Df P w K mg base 1 "_law_stream" 2 m_stream) (d_stretch : Df P w K mg base 2 "_law_stretch" 2 m_stretch) :
    FnOk P w K mg base CX0 3 f fd ["_law_xs", "_law_names_here"] (spD K 2 m_known) :=
  fn_ok F sc_known fun X Z cdv A outer s H E hX hr hp => by
    subst hX
    exact ⟨[], (dss_cons (ds_own (i := 2) sc_known.nd df_dnew)
      (dss_cons (ds_for hp rfl (di_range1 Bt.range (de_callB dcl_len Bt.len (da_cons (de_var 1) da_nil))) (dg_name 3 sc_known.nd)
      (dss_cons (ds_set (i := 4) sc_known.nd (de_call d_stream hr (da_cons (de_bin dop_add (de_ix (de_var 0) de_int) (de_bin dop_mul de_int (de_var 3))) (da_cons de_int da_nil))))
      (dss_cons (ds_dput (i := 2) hr (de_ix (de_var 1) (de_var 3)) (de_call d_stretch hr (da_cons (de_ix (de_var 4) de_int) (da_cons (de_ix (de_var 4) de_int) da_nil))))
      (dss_one (ds_if (dt_cmp (dop_eq hr) (de_bin dop_mod (de_bin dop_div (de_ix (de_var 4) de_int) de_int) de_int) de_int)
      (dss_one (ds_dput (i := 2) hr (de_ix (de_var 1) (de_var 3)) (de_oget (i := 2) hr (de_ix (de_var 1) de_int))))
      dss_nil)))))
      (dss_free 2 rfl (dss_one (ds_ret (de_var 2))))))⟩
abbrev s_names : Stmt := top 19
def l_names_1 : MS :=
    (sSeq (sSet 6 (eBin gAdd (eC (.int 1)) (eBin gMod (eBin gAdd (eBin gDiv (eVar 0) (eC (.int 7))) (eBin gMulI (eVar 5) (eBin gMod (eVar 0) (eC (.int 2))))) (eC (.int 8)))))
    (sSeq (sSet 7 (eComp (iRange1 (eVar 6)) (gPut 8) bYes (eBin gIx (eVar 2) (eBin gMod (eBin gAdd (eBin gDiv (eVar 0) (eC (.int 56))) (eBin gMulI (eVar 8) (eVar 3))) (eC (.int 26)))) [8]))
    (sSeq (sLPut 7 (eBin gMod (eBin gDiv (eVar 0) (eC (.int 1456))) (eVar 6)) (eBin gIx (eVar 2) (eBin gMod (eBin gAdd (eBin gDiv (eVar 0) (eC (.int 56))) (eBin gMulI (eC (.int 5)) (eVar 5))) (eC (.int 26)))))
    (sApp 4 (eBin gJoin (eC (.str "")) (eVar 7))))))
def b_names_4 : MS :=
    (sRet (eVar 4))
def b_names_3 : MS :=
    sSeq (sFor (iRange1 (eVar 1)) (gPut 5)
    l_names_1) b_names_4
def b_names_2 : MS :=
    sSeq (sSet 4 (eLst aNil)) b_names_3
def b_names_1 : MS :=
    sSeq (sSet 3 (eBin gAdd (eC (.int 1)) (eBin gMod (eBin gDiv (eVar 0) (eC (.int 3))) (eC (.int 25))))) b_names_2
def b_names : MS :=
    sSeq (sSet 2 (eC (.str "abcdefghijklmnopqrstuvwxyz"))) b_names_1
def m_names : MF := runD 9 b_names
theorem sc_names : FnScope ["_law_cell", "_law_many", "_law_abc", "_law_step", "_law_found", "_law_j", "_law_size", "_law_row", "_law_p"] ["_law_cell", "_law_many"] (defScope s_names) := ⟨rfl, rfl, rfl, by decide +kernel, rfl, by decide +kernel, by decide +kernel⟩
theorem ok_names {P : Program} {w : World} {K : PySem.W.Frag} {mg : Str → Option Value} {base : Heap} {f : Addr} {fd : FuncData} (F : Fun K "_law_names" "_law_names" s_names f fd) (Bt : Bts mg)  :
    FnOk P w K mg base CX0 1 f fd ["_law_cell", "_law_many"] (spD K 2 m_names) :=
  fn_ok F sc_names fun X Z cdv A outer s H E hX hr hp => by
    subst hX
    exact ⟨[], (dss_cons (ds_set (i := 2) sc_names.nd de_str)
      (dss_cons (ds_set (i := 3) sc_names.nd (de_bin dop_add de_int (de_bin dop_mod (de_bin dop_div (de_var 0) de_int) de_int)))
      (dss_cons (ds_own (i := 4) sc_names.nd (df_lst da_nil))
      (dss_cons (ds_for hp rfl (di_range1 Bt.range (de_var 1)) (dg_name 5 sc_names.nd)
      (dss_cons (ds_set (i := 6) sc_names.nd (de_bin dop_add de_int (de_bin dop_mod (de_bin dop_add (de_bin dop_div (de_var 0) de_int) (de_bin dop_mul (de_var 5) (de_bin dop_mod (de_var 0) de_int))) de_int)))
      (dss_cons (ds_ownP (i := 7) (ps_lcF (i := 7) [("_law_p", 8)] rfl sc_names.nd (di_range1 Bt.range (de_var 6)) (blkOk_by (N := ["_law_cell", "_law_many", "_law_abc", "_law_step", "_law_found", "_law_j", "_law_size", "_law_row", "_law_p"]) (sc := defScope s_names) (by decide +kernel)) (fun _ _ _ _ _ => (dg_name 8 sc_names.nd)) (fun _ _ _ _ _ => dts_nil) (fun _ _ _ _ _ => (de_ix (de_var 2) (de_bin dop_mod (de_bin dop_add (de_bin dop_div (de_var 0) de_int) (de_bin dop_mul (de_var 8) (de_var 3))) de_int))) (sw_true rfl rfl rfl (by decide +kernel))))
      (dss_cons (ds_lput (i := 7) (de_bin dop_mod (de_bin dop_div (de_var 0) de_int) (de_var 6)) (de_ix (de_var 2) (de_bin dop_mod (de_bin dop_add (de_bin dop_div (de_var 0) de_int) (de_bin dop_mul de_int (de_var 5))) de_int)))
      (dss_free 7 rfl (dss_one (ds_app (i := 4) (de_join de_str (de_var 7)))))))))
      (dss_free 4 rfl (dss_one (ds_ret (de_var 4))))))))⟩
abbrev s_leaf : Stmt := top 20
def b_leaf : MS :=
    (sRet (eBin gIx (eLst (aCons (eCall m_number (aCons (eBin gDiv (eVar 0) (eC (.int 3))) aNil)) (aCons (eBin gIx (eVar 1) (eBin gMod (eBin gDiv (eVar 0) (eC (.int 3))) (eCall gLen (aCons (eVar 1) aNil)))) aNil))) (eCall gInt (aCons (eBin (gB fun i j => decide (j < i)) (eBin gMod (eVar 0) (eC (.int 3))) (eC (.int 0))) aNil))))
def m_leaf : MF := runD 2 b_leaf
theorem sc_leaf : FnScope ["_law_x", "_law_names_here"] ["_law_x", "_law_names_here"] (defScope s_leaf) := ⟨rfl, rfl, rfl, by decide +kernel, rfl, by decide +kernel, by decide +kernel⟩
theorem ok_leaf {P : Program} {w : World} {K : PySem.W.Frag} {mg : Str → Option Value} {base : Heap} {f : Addr} {fd : FuncData} (F : Fun K "_law_leaf" "_law_leaf" s_leaf f fd) (Bt : Bts mg) (d_number : Df P w K mg base 1 "_law_number" 1 m_number) :
    FnOk P w K mg base CX0 2 f fd ["_law_x", "_law_names_here"] (spD K 2 m_leaf) :=
  fn_ok F sc_leaf fun X Z cdv A outer s H E hX hr hp => by
    subst hX
    exact ⟨[], (dss_one (ds_ret (de_ix ((df_lst (da_cons (de_call d_number hr (da_cons (de_bin dop_div (de_var 0) de_int) da_nil)) (da_cons (de_ix (de_var 1) (de_bin dop_mod (de_bin dop_div (de_var 0) de_int) (de_callB dcl_len Bt.len (da_cons (de_var 1) da_nil)))) da_nil)))).de (de_callTy dcl_int Bt.int (da_cons (de_cmp dop_gt (de_bin dop_mod (de_var 0) de_int) de_int) da_nil)))))⟩
abbrev s_tree : Stmt := top 21
def b_tree_4 (m_tree : MF) : MS :=
    (sRet (eTup (aCons (eBin gIx (eC (.str "+-*")) (eBin gMod (eBin gDiv (eBin gIx (eVar 3) (eC (.int 2))) (eC (.int 5))) (eC (.int 3)))) (aCons (eVar 4) (aCons (eCall m_tree (aCons (eBin gIx (eVar 3) (eC (.int 1))) (aCons (eVar 1) (aCons (eBin gMinus (eVar 2) (eC (.int 1))) aNil)))) aNil)))))
def b_tree_3 (m_tree : MF) : MS :=
    sSeq (sIf (bOf (eBin gEq (eBin gMod (eBin gIx (eVar 3) (eC (.int 2))) (eC (.int 5))) (eC (.int 0))))
    (sRet (eTup (aCons (eC (.str "rest")) (aCons (eVar 4) (aCons (eBin gAdd (eC (.int 1)) (eBin gMod (eBin gIx (eVar 3) (eC (.int 1))) (eBin gIx (eLst (aCons (eC (.int 9)) (aCons (eC (.int 1000000)) aNil))) (eBin gMod (eBin gDiv (eBin gIx (eVar 3) (eC (.int 2))) (eC (.int 5))) (eC (.int 2)))))) aNil)))))
    sNext) (b_tree_4 m_tree)
def b_tree_2 (m_tree : MF) : MS :=
    sSeq (sSet 4 (eCall m_tree (aCons (eBin gIx (eVar 3) (eC (.int 0))) (aCons (eVar 1) (aCons (eBin gMinus (eVar 2) (eC (.int 1))) aNil))))) (b_tree_3 m_tree)
def b_tree_1 (m_tree : MF) : MS :=
    sSeq (sSet 3 (eCall m_stream (aCons (eVar 0) (aCons (eC (.int 3)) aNil)))) (b_tree_2 m_tree)
def b_tree (m_tree : MF) : MS :=
    sSeq (sIf (bOr (bOf (eBin gEq (eVar 2) (eC (.int 1)))) (bOf (eBin gEq (eBin gMod (eVar 0) (eC (.int 5))) (eC (.int 0)))))
    (sRet (eCall m_leaf (aCons (eBin gDiv (eVar 0) (eC (.int 5))) (aCons (eVar 1) aNil))))
    sNext) (b_tree_1 m_tree)
def m_tree : Nat → MF
  | 0 => fun _ => none
  | n + 1 => runD 5 (b_tree (m_tree n))
theorem sc_tree : FnScope ["_law_x", "_law_names_here", "_law_deep", "_law_xs", "_law_left"] ["_law_x", "_law_names_here", "_law_deep"] (defScope s_tree) := ⟨rfl, rfl, rfl, by decide +kernel, rfl, by decide +kernel, by decide +kernel⟩
theorem ok_tree {P : Program} {w : World} {K : PySem.W.Frag} {mg : Str → Option Value} {base : Heap} {f : Addr} {fd : FuncData} (F : Fun K "_law_tree" "_law_tree" s_tree f fd) (Bt : Bts mg) (d_leaf : Df P w K mg base 2 "_law_leaf" 2 m_leaf) (d_stream : Df P w K mg base 1 "_law_stream" 2 m_stream) (hb : Binds K fd ["_law_x", "_law_names_here", "_law_deep"] []) (hm : mg "_law_tree" = some (.ref f)) :
    ∀ n : Nat, FnOk P w K mg base CX0 (2 + n) f fd ["_law_x", "_law_names_here", "_law_deep"] (spD K 3 (m_tree n))
  | 0 => fn_none
  | n + 1 =>
    have d_tree : Df P w K mg base (2 + n) "_law_tree" 3 (m_tree n) := df_of F hb hm (ok_tree F Bt d_leaf d_stream hb hm n)
    have hge : 2 ≤ 2 + n := Nat.le_add_right _ _
    fn_ok F sc_tree fun X Z cdv A outer s H E hX hr hp => by
    subst hX
    exact ⟨[], (dss_cons (ds_if (dt_w (dw_or (dt_cmp (dop_eq hr) (de_var 2) de_int) (dw_or1 (dt_cmp (dop_eq hr) (de_bin dop_mod (de_var 0) de_int) de_int))))
      (dss_one (ds_ret (de_call d_leaf hr (da_cons (de_bin dop_div (de_var 0) de_int) (da_cons (de_var 1) da_nil)) (hk := Nat.le_trans (by decide) hge))))
      dss_nil)
      (dss_cons (ds_set (i := 3) sc_tree.nd (de_call d_stream hr (da_cons (de_var 0) (da_cons de_int da_nil)) (hk := Nat.le_trans (by decide) hge)))
      (dss_cons (ds_set (i := 4) sc_tree.nd (de_call d_tree hr (da_cons (de_ix (de_var 3) de_int) (da_cons (de_var 1) (da_cons (de_bin dop_sub (de_var 2) de_int) da_nil))) (hk := Nat.le_refl _)))
      (dss_cons (ds_if (dt_cmp (dop_eq hr) (de_bin dop_mod (de_ix (de_var 3) de_int) de_int) de_int)
      (dss_one (ds_ret (de_tup (da_cons de_str (da_cons (de_var 4) (da_cons (de_bin dop_add de_int (de_bin dop_mod (de_ix (de_var 3) de_int) (de_ix ((df_lst (da_cons de_int (da_cons de_int da_nil)))).de (de_bin dop_mod (de_bin dop_div (de_ix (de_var 3) de_int) de_int) de_int)))) da_nil))))))
      dss_nil)
      (dss_one (ds_ret (de_tup (da_cons (de_ix de_str (de_bin dop_mod (de_bin dop_div (de_ix (de_var 3) de_int) de_int) de_int)) (da_cons (de_var 4) (da_cons (de_call d_tree hr (da_cons (de_ix (de_var 3) de_int) (da_cons (de_var 1) (da_cons (de_bin dop_sub (de_var 2) de_int) da_nil))) (hk := Nat.le_refl _)) da_nil))))))))))⟩
abbrev s_expression : Stmt := top 22
def b_expression : MS :=
    (sRet (eCall (m_tree 6) (aCons (eBin gIx (eVar 0) (eC (.int 1))) (aCons (eVar 1) (aCons (eBin gIx (eLst (aCons (eC (.int 1)) (aCons (eC (.int 2)) (aCons (eC (.int 2)) (aCons (eC (.int 2)) (aCons (eC (.int 3)) (aCons (eC (.int 3)) (aCons (eC (.int 4)) (aCons (eC (.int 6)) aNil))))))))) (eBin gMod (eBin gIx (eVar 0) (eC (.int 0))) (eC (.int 8)))) aNil)))))
def m_expression : MF := runD 2 b_expression
theorem sc_expression : FnScope ["_law_xs", "_law_names_here"] ["_law_xs", "_law_names_here"] (defScope s_expression) := ⟨rfl, rfl, rfl, by decide +kernel, rfl, by decide +kernel, by decide +kernel⟩
theorem ok_expression {P : Program} {w : World} {K : PySem.W.Frag} {mg : Str → Option Value} {base : Heap} {f : Addr} {fd : FuncData} (F : Fun K "_law_expression" "_law_expression" s_expression f fd) (Bt : Bts mg) (d_tree : Df P w K mg base 8 "_law_tree" 3 (m_tree 6)) :
    FnOk P w K mg base CX0 9 f fd ["_law_xs", "_law_names_here"] (spD K 2 m_expression) :=
  fn_ok F sc_expression fun X Z cdv A outer s H E hX hr hp => by
    subst hX
    exact ⟨[], (dss_one (ds_ret (de_call d_tree hr (da_cons (de_ix (de_var 0) de_int) (da_cons (de_var 1) (da_cons (de_ix ((df_lst (da_cons de_int (da_cons de_int (da_cons de_int (da_cons de_int (da_cons de_int (da_cons de_int (da_cons de_int (da_cons de_int da_nil)))))))))).de (de_bin dop_mod (de_ix (de_var 0) de_int) de_int)) da_nil))))))⟩
abbrev s_condition : Stmt := top 23
def b_condition_2 : MS :=
    (sRet (eTup (aCons (eBin gIx (eLst (aCons (eC (.str "<")) (aCons (eC (.str "<=")) (aCons (eC (.str "=")) (aCons (eC (.str "!=")) aNil))))) (eBin gMod (eBin gIx (eVar 0) (eC (.int 0))) (eC (.int 4)))) (aCons (eVar 2) (aCons (eVar 3) aNil)))))
def b_condition_1 : MS :=
    sSeq (sSet 3 (eBin gIx (eLst (aCons (eCall m_leaf (aCons (eBin gIx (eVar 0) (eC (.int 4))) (aCons (eVar 1) aNil))) (aCons (eCall m_expression (aCons (eSl (eVar 0) (oSome (eC (.int 6))) oNone) (aCons (eVar 1) aNil))) aNil))) (eCall gInt (aCons (eBin gEq (eBin gMod (eBin gDiv (eBin gIx (eVar 0) (eC (.int 5))) (eC (.int 3))) (eC (.int 3))) (eC (.int 0))) aNil)))) b_condition_2
def b_condition : MS :=
    sSeq (sSet 2 (eBin gIx (eLst (aCons (eCall m_leaf (aCons (eBin gIx (eVar 0) (eC (.int 1))) (aCons (eVar 1) aNil))) (aCons (eCall m_expression (aCons (eSl (eVar 0) (oSome (eC (.int 2))) oNone) (aCons (eVar 1) aNil))) aNil))) (eCall gInt (aCons (eBin gEq (eBin gMod (eBin gIx (eVar 0) (eC (.int 5))) (eC (.int 3))) (eC (.int 0))) aNil)))) b_condition_1
def m_condition : MF := runD 4 b_condition
theorem sc_condition : FnScope ["_law_xs", "_law_names_here", "_law_one", "_law_other"] ["_law_xs", "_law_names_here"] (defScope s_condition) := ⟨rfl, rfl, rfl, by decide +kernel, rfl, by decide +kernel, by decide +kernel⟩
theorem ok_condition {P : Program} {w : World} {K : PySem.W.Frag} {mg : Str → Option Value} {base : Heap} {f : Addr} {fd : FuncData} (F : Fun K "_law_condition" "_law_condition" s_condition f fd) (Bt : Bts mg) (d_expression : Df P w K mg base 9 "_law_expression" 2 m_expression) (d_leaf : Df P w K mg base 2 "_law_leaf" 2 m_leaf) :
    FnOk P w K mg base CX0 10 f fd ["_law_xs", "_law_names_here"] (spD K 2 m_condition) :=
  fn_ok F sc_condition fun X Z cdv A outer s H E hX hr hp => by
    subst hX
    exact ⟨[], (dss_cons (ds_set (i := 2) sc_condition.nd (de_ix ((df_lst (da_cons (de_call d_leaf hr (da_cons (de_ix (de_var 0) de_int) (da_cons (de_var 1) da_nil))) (da_cons (de_call d_expression hr (da_cons (de_slice (de_var 0) (dp_some de_int) dp_none) (da_cons (de_var 1) da_nil))) da_nil)))).de (de_callTy dcl_int Bt.int (da_cons (de_cmp (dop_eq hr) (de_bin dop_mod (de_ix (de_var 0) de_int) de_int) de_int) da_nil))))
      (dss_cons (ds_set (i := 3) sc_condition.nd (de_ix ((df_lst (da_cons (de_call d_leaf hr (da_cons (de_ix (de_var 0) de_int) (da_cons (de_var 1) da_nil))) (da_cons (de_call d_expression hr (da_cons (de_slice (de_var 0) (dp_some de_int) dp_none) (da_cons (de_var 1) da_nil))) da_nil)))).de (de_callTy dcl_int Bt.int (da_cons (de_cmp (dop_eq hr) (de_bin dop_mod (de_bin dop_div (de_ix (de_var 0) de_int) de_int) de_int) de_int) da_nil))))
      (dss_one (ds_ret (de_tup (da_cons (de_ix ((df_lst (da_cons de_str (da_cons de_str (da_cons de_str (da_cons de_str da_nil)))))).de (de_bin dop_mod (de_ix (de_var 0) de_int) de_int)) (da_cons (de_var 2) (da_cons (de_var 3) da_nil))))))))⟩
abbrev s_told : Stmt := top 40
def b_told_3 : MS :=
    (sRet (eVar 4))
def b_told_2 : MS :=
    sSeq (sIf (bOf (eBin gEq (eBin gMod (eBin gIx (eVar 3) (eC (.int 12))) (eC (.int 2))) (eC (.int 0))))
    (sSeq (sSet 5 (eBin gIx (eVar 1) (eBin gMod (eBin gIx (eVar 3) (eC (.int 13))) (eCall gLen (aCons (eVar 1) aNil)))))
    (sSeq (sSet 6 (eBin gAdd (eBin gIx (eBin gDGet (eVar 2) (eVar 5)) (eBin gMod (eBin gDiv (eBin gIx (eVar 3) (eC (.int 13))) (eC (.int 12))) (eC (.int 2)))) (eBin gIx (eLst (aCons (eC (.int 0)) (aCons (eC (.int 0)) (aCons (eNeg (eC (.int 1))) (aCons (eC (.int 1)) aNil))))) (eBin gMod (eBin gDiv (eBin gIx (eVar 3) (eC (.int 13))) (eC (.int 24))) (eC (.int 4))))))
    (sSeq (sSet 6 (eBin gIx (eLst (aCons (eVar 5) (aCons (eCall gMin (aCons (eC (.int 1000000)) (aCons (eCall gMax (aCons (eNeg (eC (.int 1000000))) (aCons (eVar 6) aNil))) aNil))) aNil))) (eCall gInt (aCons (eBin (gB fun i j => decide (j < i)) (eBin gMod (eBin gDiv (eBin gIx (eVar 3) (eC (.int 13))) (eC (.int 96))) (eC (.int 4))) (eC (.int 0))) aNil))))
    (sSet 4 (eBin gIx (eLst (aCons (eTup (aCons (eBin gIx (eVar 4) (eC (.int 0))) (aCons (eVar 5) (aCons (eVar 6) aNil)))) (aCons (eTup (aCons (eBin gIx (eVar 4) (eC (.int 0))) (aCons (eVar 6) (aCons (eVar 5) aNil)))) aNil))) (eBin gMod (eBin gDiv (eBin gIx (eVar 3) (eC (.int 13))) (eC (.int 384))) (eC (.int 2))))))))
    sNext) b_told_3
def b_told_1 : MS :=
    sSeq (sSet 4 (eCall m_condition (aCons (eVar 3) (aCons (eVar 1) aNil)))) b_told_2
def b_told : MS :=
    sSeq (sSet 3 (eCall m_stream (aCons (eCall m_cell_at (aCons (eVar 0) (aCons (eC (.int 2)) aNil))) (aCons (eC (.int 14)) aNil)))) b_told_1
def m_told : MF := runD 7 b_told
theorem sc_told : FnScope ["_law_script", "_law_names_here", "_law_known_here", "_law_xs", "_law_told_here", "_law_name", "_law_near"] ["_law_script", "_law_names_here", "_law_known_here"] (defScope s_told) := ⟨rfl, rfl, rfl, by decide +kernel, rfl, by decide +kernel, by decide +kernel⟩
theorem ok_told {P : Program} {w : World} {K : PySem.W.Frag} {mg : Str → Option Value} {base : Heap} {f : Addr} {fd : FuncData} (F : Fun K "_law_told" "_law_told" s_told f fd) (Bt : Bts mg) (d_cell_at : Df P w K mg base 1 "_law_cell_at" 2 m_cell_at) (d_condition : Df P w K mg base 10 "_law_condition" 2 m_condition) (d_stream : Df P w K mg base 1 "_law_stream" 2 m_stream) :
    FnOk P w K mg base CX0 11 f fd ["_law_script", "_law_names_here", "_law_known_here"] (spD K 3 m_told) :=
  fn_ok F sc_told fun X Z cdv A outer s H E hX hr hp => by
    subst hX
    exact ⟨[], (dss_cons (ds_set (i := 3) sc_told.nd (de_call d_stream hr (da_cons (de_call d_cell_at hr (da_cons (de_var 0) (da_cons de_int da_nil))) (da_cons de_int da_nil))))
      (dss_cons (ds_set (i := 4) sc_told.nd (de_call d_condition hr (da_cons (de_var 3) (da_cons (de_var 1) da_nil))))
      (dss_cons (ds_if (dt_cmp (dop_eq hr) (de_bin dop_mod (de_ix (de_var 3) de_int) de_int) de_int)
      (dss_cons (ds_set (i := 5) sc_told.nd (de_ix (de_var 1) (de_bin dop_mod (de_ix (de_var 3) de_int) (de_callB dcl_len Bt.len (da_cons (de_var 1) da_nil)))))
      (dss_cons (ds_set (i := 6) sc_told.nd (de_bin dop_add (de_ix (de_dget hr (de_var 2) (de_var 5)) (de_bin dop_mod (de_bin dop_div (de_ix (de_var 3) de_int) de_int) de_int)) (de_ix ((df_lst (da_cons de_int (da_cons de_int (da_cons (de_neg de_int) (da_cons de_int da_nil)))))).de (de_bin dop_mod (de_bin dop_div (de_ix (de_var 3) de_int) de_int) de_int))))
      (dss_cons (ds_set (i := 6) sc_told.nd (de_ix ((df_lst (da_cons (de_var 5) (da_cons (de_callB (dcl_min rfl) Bt.min (da_cons de_int (da_cons (de_callB (dcl_max rfl) Bt.max (da_cons (de_neg de_int) (da_cons (de_var 6) da_nil))) da_nil))) da_nil)))).de (de_callTy dcl_int Bt.int (da_cons (de_cmp dop_gt (de_bin dop_mod (de_bin dop_div (de_ix (de_var 3) de_int) de_int) de_int) de_int) da_nil))))
      (dss_one (ds_set (i := 4) sc_told.nd (de_ix ((df_lst (da_cons (de_tup (da_cons (de_ix (de_var 4) de_int) (da_cons (de_var 5) (da_cons (de_var 6) da_nil)))) (da_cons (de_tup (da_cons (de_ix (de_var 4) de_int) (da_cons (de_var 6) (da_cons (de_var 5) da_nil)))) da_nil)))).de (de_bin dop_mod (de_bin dop_div (de_ix (de_var 3) de_int) de_int) de_int)))))))
      dss_nil)
      (dss_one (ds_ret (de_var 4))))))⟩
abbrev s_p_contrary : Stmt := top 14
def b_p_contrary_3 : MS :=
    (sRet (eTup (aCons (eIf (bOf (eBin gEq (eVar 1) (eC (.str "=")))) (eC (.str "!=")) (eC (.str "="))) (aCons (eVar 2) (aCons (eVar 3) aNil)))))
def b_p_contrary_2 : MS :=
    sSeq (sIf (bOf (eBin gEq (eVar 1) (eC (.str "<="))))
    (sRet (eTup (aCons (eC (.str "<")) (aCons (eVar 3) (aCons (eVar 2) aNil)))))
    sNext) b_p_contrary_3
def b_p_contrary_1 : MS :=
    sSeq (sIf (bOf (eBin gEq (eVar 1) (eC (.str "<"))))
    (sRet (eTup (aCons (eC (.str "<=")) (aCons (eVar 3) (aCons (eVar 2) aNil)))))
    sNext) b_p_contrary_2
def b_p_contrary : MS :=
    sSeq (sAsg (eVar 0) (gTupD 3 (gsCons (gPut 1) (gsCons (gPut 2) (gsCons (gPut 3) gsNil))))) b_p_contrary_1
def m_p_contrary : MF := runD 4 b_p_contrary
theorem sc_p_contrary : FnScope ["condition", "sign", "left", "right"] ["condition"] (defScope s_p_contrary) := ⟨rfl, rfl, rfl, by decide +kernel, rfl, by decide +kernel, by decide +kernel⟩
theorem ok_p_contrary {P : Program} {w : World} {K : PySem.W.Frag} {mg : Str → Option Value} {base : Heap} {f : Addr} {fd : FuncData} (F : Fun K "contrary" "contrary" s_p_contrary f fd) (Bt : Bts mg)  :
    FnOk P w K mg base CX0 1 f fd ["condition"] (spD K 1 m_p_contrary) :=
  fn_ok F sc_p_contrary fun X Z cdv A outer s H E hX hr hp => by
    subst hX
    exact ⟨[], (dss_cons (ds_asg (de_var 0) (dg_tup rfl (dgs_cons (dg_name 1 sc_p_contrary.nd) (dgs_cons (dg_name 2 sc_p_contrary.nd) (dgs_cons (dg_name 3 sc_p_contrary.nd) dgs_nil)))))
      (dss_cons (ds_if (dt_cmp (dop_eq hr) (de_var 1) de_str)
      (dss_one (ds_ret (de_tup (da_cons de_str (da_cons (de_var 3) (da_cons (de_var 2) da_nil))))))
      dss_nil)
      (dss_cons (ds_if (dt_cmp (dop_eq hr) (de_var 1) de_str)
      (dss_one (ds_ret (de_tup (da_cons de_str (da_cons (de_var 3) (da_cons (de_var 2) da_nil))))))
      dss_nil)
      (dss_one (ds_ret (de_tup (da_cons (de_if (dt_cmp (dop_eq hr) (de_var 1) de_str) de_str de_str) (da_cons (de_var 2) (da_cons (de_var 3) da_nil)))))))))⟩
abbrev s_law : Stmt := top 42
def b_law_10 : MS :=
    (sRet (eBin gEqDD (eVar 6) (eVar 3)))
def b_law_9 : MS :=
    sSeq (sIf (bAnd (bOf (eBin gIsNot (eCall m_holds (aCons (eVar 5) (aCons (eVar 4) aNil))) (eC .non))) (bOf (eBin gEq (eCall m_holds (aCons (eVar 5) (aCons (eVar 4) aNil))) (eCall m_holds (aCons (eVar 7) (aCons (eVar 4) aNil))))))
    (sRet (eC (.bl false)))
    sNext) b_law_10
def b_law_8 : MS :=
    sSeq (sIf (bOr (bNot (bOf (eCall m_good (aCons (eVar 5) (aCons (eVar 6) (aCons (eVar 4) aNil)))))) (bNot (bOf (eCall m_good (aCons (eVar 7) (aCons (eVar 6) (aCons (eVar 4) aNil)))))))
    (sRet (eC (.bl false)))
    sNext) b_law_9
def b_law_7 : MS :=
    sSeq (sIf (bOr (bNot (bOf (eIsi .tuple (eVar 7)))) (bOf (eBin gNe (eVar 7) (eCall m_contrary (aCons (eVar 5) aNil)))))
    (sRet (eC (.bl false)))
    sNext) b_law_8
def b_law_6 : MS :=
    sSeq (sSet 7 (eCall m_p_contrary (aCons (eVar 5) aNil))) b_law_7
def b_law_5 : MS :=
    sSeq (sSet 6 (eDict (eVar 3))) b_law_6
def b_law_4 : MS :=
    sSeq (sSet 5 (eCall m_told (aCons (eVar 0) (aCons (eVar 2) (aCons (eVar 3) aNil))))) b_law_5
def b_law_3 : MS :=
    sSeq (sSet 4 (eCall m_held (aCons (eVar 3) (aCons (eBin gMod (eCall m_cell_at (aCons (eVar 0) (aCons (eC (.int 3)) aNil))) (eC (.int 2147483647))) aNil)))) b_law_4
def b_law_2 : MS :=
    sSeq (sSet 3 (eCall m_known (aCons (eCall m_stream (aCons (eCall m_cell_at (aCons (eVar 0) (aCons (eC (.int 1)) aNil))) (aCons (eC (.int 1)) aNil))) (aCons (eVar 2) aNil)))) b_law_3
def b_law_1 : MS :=
    sSeq (sSet 2 (eCall m_names (aCons (eBin gIx (eVar 1) (eC (.int 0))) (aCons (eBin gIx (eLst (aCons (eBin gAdd (eC (.int 1)) (eBin gMod (eBin gIx (eVar 1) (eC (.int 1))) (eC (.int 3)))) (aCons (eC (.int 12)) aNil))) (eCall gInt (aCons (eBin gEq (eBin gMod (eBin gDiv (eBin gIx (eVar 1) (eC (.int 1))) (eC (.int 3))) (eC (.int 8))) (eC (.int 0))) aNil))) aNil)))) b_law_2
def b_law : MS :=
    sSeq (sSet 1 (eCall m_stream (aCons (eCall m_cell_at (aCons (eVar 0) (aCons (eC (.int 0)) aNil))) (aCons (eC (.int 3)) aNil)))) b_law_1
def m_law : MF := runD 8 b_law
theorem sc_law : FnScope ["_law_script", "_law_xs", "_law_names_here", "_law_known_here", "_law_held_here", "_law_told_here", "_law_handed", "_law_other"] ["_law_script"] (defScope s_law) := ⟨rfl, rfl, rfl, by decide +kernel, rfl, by decide +kernel, by decide +kernel⟩
theorem ok_law {P : Program} {w : World} {K : PySem.W.Frag} {mg : Str → Option Value} {base : Heap} {f : Addr} {fd : FuncData} (F : Fun K "law" "law" s_law f fd) (Bt : Bts mg) (d_cell_at : Df P w K mg base 1 "_law_cell_at" 2 m_cell_at) (d_contrary : Df P w K mg base 1 "_law_contrary" 1 m_contrary) (d_good : Df P w K mg base 11 "_law_good" 3 m_good) (d_held : Df P w K mg base 2 "_law_held" 2 m_held) (d_holds : Df P w K mg base 7 "_law_holds" 2 m_holds) (d_known : Df P w K mg base 3 "_law_known" 2 m_known) (d_names : Df P w K mg base 1 "_law_names" 2 m_names) (d_stream : Df P w K mg base 1 "_law_stream" 2 m_stream) (d_told : Df P w K mg base 11 "_law_told" 3 m_told) (d_p_contrary : Df P w K mg base 1 "contrary" 1 m_p_contrary) :
    FnOk P w K mg base CX0 12 f fd ["_law_script"] (spD K 1 m_law) :=
  fn_ok F sc_law fun X Z cdv A outer s H E hX hr hp => by
    subst hX
    exact ⟨[], (dss_cons (ds_set (i := 1) sc_law.nd (de_call d_stream hr (da_cons (de_call d_cell_at hr (da_cons (de_var 0) (da_cons de_int da_nil))) (da_cons de_int da_nil))))
      (dss_cons (ds_set (i := 2) sc_law.nd (de_call d_names hr (da_cons (de_ix (de_var 1) de_int) (da_cons (de_ix ((df_lst (da_cons (de_bin dop_add de_int (de_bin dop_mod (de_ix (de_var 1) de_int) de_int)) (da_cons de_int da_nil)))).de (de_callTy dcl_int Bt.int (da_cons (de_cmp (dop_eq hr) (de_bin dop_mod (de_bin dop_div (de_ix (de_var 1) de_int) de_int) de_int) de_int) da_nil))) da_nil))))
      (dss_cons (ds_set (i := 3) sc_law.nd (de_call d_known hr (da_cons (de_call d_stream hr (da_cons (de_call d_cell_at hr (da_cons (de_var 0) (da_cons de_int da_nil))) (da_cons de_int da_nil))) (da_cons (de_var 2) da_nil))))
      (dss_cons (ds_set (i := 4) sc_law.nd (de_call d_held hr (da_cons (de_var 3) (da_cons (de_bin dop_mod (de_call d_cell_at hr (da_cons (de_var 0) (da_cons de_int da_nil))) de_int) da_nil))))
      (dss_cons (ds_set (i := 5) sc_law.nd (de_call d_told hr (da_cons (de_var 0) (da_cons (de_var 2) (da_cons (de_var 3) da_nil)))))
      (dss_cons (ds_set (i := 6) sc_law.nd ((df_dict Bt.dict (de_var 3))).de)
      (dss_cons (ds_set (i := 7) sc_law.nd (de_call d_p_contrary hr (da_cons (de_var 5) da_nil)))
      (dss_cons (ds_if (dt_w (dw_or (dt_not (dt_val (de_isi .tuple Bt.isinstance Bt.tuple (de_var 7)))) (dw_or1 (dt_cmp (dop_ne hr) (de_var 7) (de_call d_contrary hr (da_cons (de_var 5) da_nil))))))
      (dss_one (ds_ret de_bl))
      dss_nil)
      (dss_cons (ds_if (dt_w (dw_or (dt_not (dt_val (de_call d_good hr (da_cons (de_var 5) (da_cons (de_var 6) (da_cons (de_var 4) da_nil)))))) (dw_or1 (dt_not (dt_val (de_call d_good hr (da_cons (de_var 7) (da_cons (de_var 6) (da_cons (de_var 4) da_nil)))))))))
      (dss_one (ds_ret de_bl))
      dss_nil)
      (dss_cons (ds_if (dt_w (dw_and (dt_cmp dop_isNot (de_call d_holds hr (da_cons (de_var 5) (da_cons (de_var 4) da_nil))) de_non) (dw_and1 (dt_cmp (dop_eq hr) (de_call d_holds hr (da_cons (de_var 5) (da_cons (de_var 4) da_nil))) (de_call d_holds hr (da_cons (de_var 7) (da_cons (de_var 4) da_nil)))))))
      (dss_one (ds_ret de_bl))
      dss_nil)
      (dss_one (ds_ret (de_cmp (dop_eqDD hr) (de_var 6) (de_var 3))))))))))))))⟩
end K09

set_option maxRecDepth 100000
namespace K09
open PySem PySem.Spec L2 BW
local macro_rules | `(tactic| walk_at "u cell_at") => `(tactic| unfold m_cell_at b_cell_at b_cell_at_1)
local macro_rules | `(tactic| walk_at "u contrary") => `(tactic| unfold m_contrary b_contrary)
local macro_rules | `(tactic| walk_at "u worth") => `(tactic| unfold b_worth b_worth_1 b_worth_2 b_worth_3 b_worth_4 b_worth_5 b_worth_6 b_worth_7 b_worth_8 b_worth_9 b_worth_10)
local macro_rules | `(tactic| walk_at "u holds") => `(tactic| unfold m_holds b_holds b_holds_1 b_holds_2 b_holds_3)
local macro_rules | `(tactic| walk_at "u met") => `(tactic| unfold m_met b_met b_met_1)
local macro_rules | `(tactic| walk_at "u cut") => `(tactic| unfold m_cut b_cut b_cut_1)
local macro_rules | `(tactic| walk_at "u reach") => `(tactic| unfold b_reach b_reach_1 b_reach_2 b_reach_3 b_reach_4 b_reach_5 b_reach_6 b_reach_7 b_reach_8 b_reach_9)
local macro_rules | `(tactic| walk_at "u side") => `(tactic| unfold m_side b_side b_side_1 b_side_2 b_side_3 b_side_4)
local macro_rules | `(tactic| walk_at "u kept") => `(tactic| unfold m_kept b_kept b_kept_1 b_kept_2 b_kept_3 b_kept_4 b_kept_5 b_kept_6)
local macro_rules | `(tactic| walk_at "ul kept") => `(tactic| unfold l_kept_1)
local macro_rules | `(tactic| walk_at "u whole") => `(tactic| unfold m_whole b_whole)
local macro_rules | `(tactic| walk_at "u is_stretch") => `(tactic| unfold m_is_stretch b_is_stretch b_is_stretch_1)
local macro_rules | `(tactic| walk_at "u same_dict") => `(tactic| unfold m_same_dict b_same_dict b_same_dict_1 b_same_dict_2)
local macro_rules | `(tactic| walk_at "ul same_dict") => `(tactic| unfold l_same_dict_1)
local macro_rules | `(tactic| walk_at "u p_met") => `(tactic| unfold m_p_met b_p_met b_p_met_1 b_p_met_2 b_p_met_3 b_p_met_4)
local macro_rules | `(tactic| walk_at "u p_can_hold") => `(tactic| unfold m_p_can_hold b_p_can_hold b_p_can_hold_1 b_p_can_hold_2 b_p_can_hold_3)
local macro_rules | `(tactic| walk_at "u p_without") => `(tactic| unfold m_p_without b_p_without b_p_without_1 b_p_without_2)
local macro_rules | `(tactic| walk_at "u p_narrowed") => `(tactic| unfold m_p_narrowed b_p_narrowed b_p_narrowed_1 b_p_narrowed_2 b_p_narrowed_3)
local macro_rules | `(tactic| walk_at "u p_cut") => `(tactic| unfold m_p_cut b_p_cut)
local macro_rules | `(tactic| walk_at "u p_minus") => `(tactic| unfold m_p_minus b_p_minus)
local macro_rules | `(tactic| walk_at "u p_plus") => `(tactic| unfold m_p_plus b_p_plus)
local macro_rules | `(tactic| walk_at "u p_rest") => `(tactic| unfold m_p_rest b_p_rest b_p_rest_1 b_p_rest_2 b_p_rest_3)
local macro_rules | `(tactic| walk_at "u p_times") => `(tactic| unfold m_p_times b_p_times b_p_times_1)
local macro_rules | `(tactic| walk_at "u p_reach") => `(tactic| unfold b_p_reach b_p_reach_1 b_p_reach_2 b_p_reach_3 b_p_reach_4 b_p_reach_5 b_p_reach_6 b_p_reach_7 b_p_reach_8 b_p_reach_9 b_p_reach_10)
local macro_rules | `(tactic| walk_at "u p_kept") => `(tactic| unfold m_p_kept b_p_kept b_p_kept_1 b_p_kept_2 b_p_kept_3 b_p_kept_4 b_p_kept_5 b_p_kept_6 b_p_kept_7)
local macro_rules | `(tactic| walk_at "ul p_kept") => `(tactic| unfold l_p_kept_1)
local macro_rules | `(tactic| walk_at "u good") => `(tactic| unfold m_good b_good)
local macro_rules | `(tactic| walk_at "ul good") => `(tactic| unfold l_good_1 l_good_2)
local macro_rules | `(tactic| walk_at "u one_of") => `(tactic| unfold m_one_of b_one_of b_one_of_1)
local macro_rules | `(tactic| walk_at "u held") => `(tactic| unfold m_held b_held b_held_1 b_held_2)
local macro_rules | `(tactic| walk_at "ul held") => `(tactic| unfold l_held_1)
local macro_rules | `(tactic| walk_at "u stream") => `(tactic| unfold m_stream b_stream b_stream_1 b_stream_2 b_stream_3)
local macro_rules | `(tactic| walk_at "ul stream") => `(tactic| unfold l_stream_1)
local macro_rules | `(tactic| walk_at "u number") => `(tactic| unfold m_number b_number b_number_1 b_number_2)
local macro_rules | `(tactic| walk_at "u stretch") => `(tactic| unfold m_stretch b_stretch b_stretch_1 b_stretch_2)
local macro_rules | `(tactic| walk_at "u known") => `(tactic| unfold m_known b_known b_known_1 b_known_2)
local macro_rules | `(tactic| walk_at "ul known") => `(tactic| unfold l_known_1)
local macro_rules | `(tactic| walk_at "u names") => `(tactic| unfold m_names b_names b_names_1 b_names_2 b_names_3 b_names_4)
local macro_rules | `(tactic| walk_at "ul names") => `(tactic| unfold l_names_1)
local macro_rules | `(tactic| walk_at "u leaf") => `(tactic| unfold m_leaf b_leaf)
local macro_rules | `(tactic| walk_at "u tree") => `(tactic| unfold b_tree b_tree_1 b_tree_2 b_tree_3 b_tree_4)
local macro_rules | `(tactic| walk_at "u expression") => `(tactic| unfold m_expression b_expression)
local macro_rules | `(tactic| walk_at "u condition") => `(tactic| unfold m_condition b_condition b_condition_1 b_condition_2)
local macro_rules | `(tactic| walk_at "u told") => `(tactic| unfold m_told b_told b_told_1 b_told_2 b_told_3)
local macro_rules | `(tactic| walk_at "u p_contrary") => `(tactic| unfold m_p_contrary b_p_contrary b_p_contrary_1 b_p_contrary_2 b_p_contrary_3)
local macro_rules | `(tactic| walk_at "u law") => `(tactic| unfold m_law b_law b_law_1 b_law_2 b_law_3 b_law_4 b_law_5 b_law_6 b_law_7 b_law_8 b_law_9 b_law_10)
local macro_rules | `(tactic| walk_at "ev") => `(tactic| simp (config := { implicitDefEqProofs := false }) only [q_tru, q_tru_b, q_tru_n, q_tru_i, q_tru_l, q_tru_t, q_retN, q_retN_s, q_clr, q_clr_s, q_may, q_may_n, q_may_d, q_may_l, q_no, q_augAdd, q_augSub, q_items, q_items_s, q_get2, q_get2_s, q_din, q_dinS, q_dinI, q_dninS, q_zip, q_zip_t, q_zip_l, zipD_cons, zipD_nil, q_sorted, q_sorted_s, q_ik, q_ik_s, q_keys, q_keys_s, gget, keyD_kD, q_ixOwn, q_addT22, q_eqDD, q_neDD, q_dget, q_dict, q_dict_s, q_dput, q_disp, q_disp_s, q_pairs_nil, q_pairs, q_pair_s, q_keyS, q_lput, sb0, sb1, sb2, sb3, sb4, sb5, sb6, sb7, sb8, sb9, sb10, sb11, sb12, sb13, sb14, sb15, sb16, sb17, sb18, sb19, sb20, sb21, sb22, sb23, sb24, sb25, sb26, sb27, sb28, sb29, sb30, sb31, q_seq, q_seq_nx, q_seq_rt, q_seq_bk, q_seq_ct, q_set, q_set_s, q_ret, q_ret_s, q_if, q_if_t, q_if_f, q_run, q_out_rt, q_out_nx, q_bin, q_bin_s, q_a, q_a_s, q_ch, q_ch_s, q_ch_b, q_ch_f, q_and, q_and_b, q_and_f, q_and_t, q_or, q_or_b, q_or_f, q_or_t, q_not, q_not_b, q_neg, q_neg_i, q_bOf, q_bOf_b, q_bAnd, q_bAnd_b, q_bAnd_f, q_bAnd_t, q_bOr, q_bOr_b, q_bOr_f, q_bOr_t, q_bNot, q_eIf, q_eIf_t, q_eIf_f, q_sl, q_sl_l, q_o, q_o_i, q_oN, q_isi, q_isi_s, isiD, q_app, q_app_s, q_for, q_for_s, q_forD, q_forD_nil, q_for2, q_for1_nx, q_for1_ct, q_for1_bk, q_for1_rt, q_iL, q_iL_s, q_iT, q_iT_s, q_rg, q_rg_s, q_rg2, q_rg2_s, q_asg, q_asg_d, q_asg2_s, q_addI, q_addL, q_sub, q_mul, q_div, q_mod, q_gB, q_is, q_isNot, dIsNon, q_ixL, q_ixT, q_lenL, q_lenT, q_intI, q_intB, q_max, q_min, q_eq, q_ne, q_call, q_tup, q_lst, q_nil, q_c, q_var, q_next, q_brk, q_cnt, q_put, q_gsN, q_gsC, q_gT2, eq_self, q_cmp, q_cmp_nil, q_cmp_s, q_cmp2_t, q_cmp2_f, q_bYes, q_wipe_nil, q_wipe, q_comp, q_cm2_nil, q_cm2, q_cm2_s, q_cm22_t, q_cm22_f, q_cm23,
  start', List.map_cons, List.map_nil, List.length_map, List.length_cons, List.length_nil, List.cons_append, List.nil_append, List.replicate, List.replicate_zero, List.replicate_succ, Nat.reduceAdd, Nat.reduceSub, Nat.zero_add, Nat.add_zero, Nat.sub_self,
  List.getElem?_cons_zero, List.getElem?_cons_succ, List.getElem?_nil, Option.join_some, Option.join_none, Option.map_some, Option.map_none, Option.bind_some, Option.bind_none, List.set_cons_zero, List.set_cons_succ, List.set_nil,
  Int.reduceLT, Int.reduceLE, Int.reduceNeg, Int.reduceAdd, Int.reduceSub, Int.reduceMul, Int.reduceDiv, Int.reduceMod, Nat.reduceLT, Nat.reduceLeDiff, if_true, if_false, ite_true, ite_false, decide_true, decide_false, and_self, and_true, true_and, reduceIte, Bool.or_true, Bool.true_or, Bool.or_false, Bool.false_or, Bool.and_true, Bool.true_and, Bool.not_true, Bool.not_false, eqv_int2, eqv_int, eqv_bl, atI0, atI1, atI2, atI3, atI4, Bool.and_self, Bool.or_self, Bool.false_eq_true, Int.cast_ofNat_Int, Int.natCast_zero, Int.natCast_one, beq_self_eq_true, Int.reduceBEq, Int.reduceBNe])
local macro_rules | `(tactic| walk_at "evh") => `(tactic| simp (config := { implicitDefEqProofs := false }) only [q_tru, q_tru_b, q_tru_n, q_tru_i, q_tru_l, q_tru_t, q_retN, q_retN_s, q_clr, q_clr_s, q_may, q_may_n, q_may_d, q_may_l, q_no, q_augAdd, q_augSub, q_items, q_items_s, q_get2, q_get2_s, q_din, q_dinS, q_dinI, q_dninS, q_zip, q_zip_t, q_zip_l, zipD_cons, zipD_nil, q_sorted, q_sorted_s, q_ik, q_ik_s, q_keys, q_keys_s, gget, keyD_kD, q_ixOwn, q_addT22, q_eqDD, q_neDD, q_dget, q_dict, q_dict_s, q_dput, q_disp, q_disp_s, q_pairs_nil, q_pairs, q_pair_s, q_keyS, q_lput, sb0, sb1, sb2, sb3, sb4, sb5, sb6, sb7, sb8, sb9, sb10, sb11, sb12, sb13, sb14, sb15, sb16, sb17, sb18, sb19, sb20, sb21, sb22, sb23, sb24, sb25, sb26, sb27, sb28, sb29, sb30, sb31, q_seq, q_seq_nx, q_seq_rt, q_seq_bk, q_seq_ct, q_set, q_set_s, q_ret, q_ret_s, q_if, q_if_t, q_if_f, q_run, q_out_rt, q_out_nx, q_bin, q_bin_s, q_a, q_a_s, q_ch, q_ch_s, q_ch_b, q_ch_f, q_and, q_and_b, q_and_f, q_and_t, q_or, q_or_b, q_or_f, q_or_t, q_not, q_not_b, q_neg, q_neg_i, q_bOf, q_bOf_b, q_bAnd, q_bAnd_b, q_bAnd_f, q_bAnd_t, q_bOr, q_bOr_b, q_bOr_f, q_bOr_t, q_bNot, q_eIf, q_eIf_t, q_eIf_f, q_sl, q_sl_l, q_o, q_o_i, q_oN, q_isi, q_isi_s, isiD, q_app, q_app_s, q_for, q_for_s, q_forD, q_forD_nil, q_for2, q_for1_nx, q_for1_ct, q_for1_bk, q_for1_rt, q_iL, q_iL_s, q_iT, q_iT_s, q_rg, q_rg_s, q_rg2, q_rg2_s, q_asg, q_asg_d, q_asg2_s, q_addI, q_addL, q_sub, q_mul, q_div, q_mod, q_gB, q_is, q_isNot, dIsNon, q_ixL, q_ixT, q_lenL, q_lenT, q_intI, q_intB, q_max, q_min, q_eq, q_ne, q_call, q_tup, q_lst, q_nil, q_c, q_var, q_next, q_brk, q_cnt, q_put, q_gsN, q_gsC, q_gT2, eq_self, q_cmp, q_cmp_nil, q_cmp_s, q_cmp2_t, q_cmp2_f, q_bYes, q_wipe_nil, q_wipe, q_comp, q_cm2_nil, q_cm2, q_cm2_s, q_cm22_t, q_cm22_f, q_cm23,
  start', List.map_cons, List.map_nil, List.length_map, List.length_cons, List.length_nil, List.cons_append, List.nil_append, List.replicate, List.replicate_zero, List.replicate_succ, Nat.reduceAdd, Nat.reduceSub, Nat.zero_add, Nat.add_zero, Nat.sub_self,
  List.getElem?_cons_zero, List.getElem?_cons_succ, List.getElem?_nil, Option.join_some, Option.join_none, Option.map_some, Option.map_none, Option.bind_some, Option.bind_none, List.set_cons_zero, List.set_cons_succ, List.set_nil,
  Int.reduceLT, Int.reduceLE, Int.reduceNeg, Int.reduceAdd, Int.reduceSub, Int.reduceMul, Int.reduceDiv, Int.reduceMod, Nat.reduceLT, Nat.reduceLeDiff, if_true, if_false, ite_true, ite_false, decide_true, decide_false, and_self, and_true, true_and, reduceIte, Bool.or_true, Bool.true_or, Bool.or_false, Bool.false_or, Bool.and_true, Bool.true_and, Bool.not_true, Bool.not_false, eqv_int2, eqv_int, eqv_bl, atI0, atI1, atI2, atI3, atI4, Bool.and_self, Bool.or_self, Bool.false_eq_true, Int.cast_ofNat_Int, Int.natCast_zero, Int.natCast_one, beq_self_eq_true, Int.reduceBEq, Int.reduceBNe, *])
theorem cell_at (xs : List Int) (k : Nat) : ∃ c, m_cell_at [.lst (xs.map .int), .int k] = some (.int c) := by
  walk_at "u cell_at"
  walk_at "ev"
  by_cases h : (k : Int) < (xs.length : Int)
  · obtain ⟨x, _, e⟩ := atI_int (xs := xs) (i := (k : Int)) (by omega) h
    refine ⟨x, ?_⟩
    simp only [h, decide_true]
    walk_at "ev"
    simp only [e]
    walk_at "ev"
  · refine ⟨0, ?_⟩
    simp only [h, decide_false]
    walk_at "ev"
theorem stream_loop (c n : D) : ∀ (ks : List Int) (acc : List Int) (z : Int) (o : Option D), 0 ≤ z → z < 4000000000 → (∀ x ∈ acc, 0 ≤ x ∧ x < 2147483647) → acc.length + ks.length ≤ 1000 → (∀ k ∈ ks, -1000000 ≤ k ∧ k ≤ 1000000) →
    ∃ (ys : List Int) (z' : Int) (o' : Option D), ys.length = acc.length + ks.length ∧ (∀ x ∈ ys, 0 ≤ x ∧ x < 2147483647) ∧ forD (gPut 4) l_stream_1 (ks.map D.int) [some c, some n, some (.lst (acc.map .int)), some (.int z), o] = .nx [some c, some n, some (.lst (ys.map .int)), some (.int z'), o']
  | [], acc, z, o, h0, h1, ha, hl, hk => ⟨acc, z, o, by simp, ha, rfl⟩
  | k :: ks, acc, z, o, h0, h1, ha, hl, hk => by
    rw [List.map_cons]
    unfold forD
    have hz : mulOk z = true := mulOk_of (by omega) (by omega)
    have hm : mulOk 48271 = true := by decide
    obtain ⟨y, hy⟩ : ∃ y, y = (z * z + 48271 * z + k) % 2147483647 := ⟨_, rfl⟩
    have y0 : 0 ≤ y := by rw [hy]; exact Int.emod_nonneg _ (by decide)
    have y1 : y < 2147483647 := by rw [hy]; exact Int.emod_lt_of_pos _ (by decide)
    rw [List.length_cons] at hl
    have hlen : acc.length < 16777216 := by omega
    obtain ⟨ys, z', o', g1, g2, g3⟩ := stream_loop c n ks (acc ++ [y]) y (some (.int k)) y0 (by omega) (fun x hx => by
      rcases List.mem_append.mp hx with hx | hx
      · exact ha x hx
      · have e : x = y := by simpa using hx
        subst e
        exact ⟨y0, y1⟩) (by rw [List.length_append]; simp only [List.length_cons, List.length_nil]; omega) (fun x hx => hk x (List.mem_cons_of_mem _ hx))
    refine ⟨ys, z', o', by rw [g1, List.length_append]; simp only [List.length_cons, List.length_nil]; omega, g2, ?_⟩
    have e1 : gMulI (.int z) (.int z) = some (.int (z * z)) := q_mul (by rw [hz]; rfl)
    have e2 : gMulI (.int 48271) (.int z) = some (.int (48271 * z)) := q_mul (by rw [hz]; rfl)
    walk_at "ul stream"
    walk_at "ev"
    simp only [e1, e2]
    walk_at "ev"
    simp only [q_app_s, List.length_map, hlen, ← hy]
    walk_at "ev"
    rw [← g3, List.map_append]
    rfl
def R (x : Int) : Prop := 0 ≤ x ∧ x < 2147483647
theorem rng_ints (lo : Int) : ∀ (n : Nat), ∃ ks : List Int, ks.length = n ∧ rng lo n = ks.map D.int ∧ ∀ k ∈ ks, lo ≤ k ∧ k < lo + n
  | 0 => ⟨[], rfl, rfl, fun k h => by cases h⟩
  | n + 1 => by
    obtain ⟨ks, h1, h2, h3⟩ := rng_ints (lo + 1) n
    refine ⟨lo :: ks, by rw [List.length_cons, h1], by rw [rng_succ, h2]; rfl, fun k hk => ?_⟩
    rcases List.mem_cons.mp hk with rfl | hk
    · omega
    · have := h3 k hk; omega
theorem stream (c : Int) (n : Nat) (hn : n ≤ 100) : ∃ xs : List Int, xs.length = n ∧ (∀ x ∈ xs, R x) ∧ m_stream [.int c, .int n] = some (.lst (xs.map .int)) := by
  obtain ⟨ks, k1, k2, k3⟩ := rng_ints 0 (n + 1)
  obtain ⟨ys, z', o', g1, g2, g3⟩ := stream_loop (.int c) (.int n) ks [] (c % 2147483647 + 48271) none (by have := Int.emod_nonneg c (show (2147483647 : Int) ≠ 0 by decide); omega) (by have := Int.emod_lt_of_pos c (show (0 : Int) < 2147483647 by decide); omega) (fun x h => by cases h) (by rw [k1]; simp only [List.length_nil]; omega) (fun k hk => by have := k3 k hk; omega)
  rw [List.length_nil, Nat.zero_add, k1] at g1
  obtain ⟨y, zs, rfl⟩ : ∃ y zs, ys = y :: zs := by
    cases ys with
    | nil => cases g1
    | cons y zs => exact ⟨y, zs, rfl⟩
  refine ⟨zs, by rw [List.length_cons] at g1; omega, fun x hx => g2 x (List.mem_cons_of_mem _ hx), ?_⟩
  walk_at "u stream"
  have hs : small ((n : Int) + 1) = true := small_of (by omega) (by omega)
  have ht : ((n : Int) + 1).toNat = n + 1 := by omega
  have e1 : rgR (some (.int ((n : Int) + 1))) = some (ks.map D.int) := by rw [q_rg_s hs, ht, k2]
  rw [List.map_nil] at g3
  walk_at "ev"
  simp only [e1]
  walk_at "ev"
  simp only [g3]
  walk_at "ev"
  simp only [cut_from1]
theorem len3 {xs : List Int} (h : xs.length = 3) : ∃ a b c, xs = [a, b, c] := by
  match xs, h with
  | [a, b, c], _ => exact ⟨a, b, c, rfl⟩
theorem len4 {xs : List Int} (h : xs.length = 4) : ∃ a b c d, xs = [a, b, c, d] := by
  match xs, h with
  | [a, b, c, d], _ => exact ⟨a, b, c, d, rfl⟩
theorem stream3 (c : Int) : ∃ x y z, R x ∧ R y ∧ R z ∧ m_stream [.int c, .int 3] = some (.lst [.int x, .int y, .int z]) := by
  obtain ⟨xs, h1, h2, h3⟩ := stream c 3 (by decide)
  obtain ⟨x, y, z, rfl⟩ := len3 h1
  exact ⟨x, y, z, h2 x (by simp), h2 y (by simp), h2 z (by simp), h3⟩
theorem stream4 (c : Int) : ∃ x y z u, R x ∧ R y ∧ R z ∧ R u ∧ m_stream [.int c, .int 4] = some (.lst [.int x, .int y, .int z, .int u]) := by
  obtain ⟨xs, h1, h2, h3⟩ := stream c 4 (by decide)
  obtain ⟨x, y, z, u, rfl⟩ := len4 h1
  exact ⟨x, y, z, u, h2 x (by simp), h2 y (by simp), h2 z (by simp), h2 u (by simp), h3⟩
/-- an item of a written list at a place within -/
theorem pick {ds : List D} {i : Int} {n : Nat} (hl : ds.length = n) (h0 : 0 ≤ i) (h : i < n) : ∃ d ∈ ds, atI ds i = some d := atI_mem h0 (by omega)
def B (x : Int) : Prop := -1000000 ≤ x ∧ x ≤ 1000000
theorem number (x : Int) : ∃ y, B y ∧ m_number [.int x] = some (.int y) := by
  walk_at "u number"
  have a1 := Int.emod_nonneg x (show (8 : Int) ≠ 0 by decide)
  have a2 := Int.emod_lt_of_pos x (show (0 : Int) < 8 by decide)
  have b1 := Int.emod_nonneg (x / 8) (show (27 : Int) ≠ 0 by decide)
  have b2 := Int.emod_lt_of_pos (x / 8) (show (0 : Int) < 27 by decide)
  have c1 := Int.emod_nonneg (x / 8) (show (4 : Int) ≠ 0 by decide)
  have c2 := Int.emod_lt_of_pos (x / 8) (show (0 : Int) < 4 by decide)
  have d1 := Int.emod_nonneg (x / 8) (show (2000001 : Int) ≠ 0 by decide)
  have d2 := Int.emod_lt_of_pos (x / 8) (show (0 : Int) < 2000001 by decide)
  have f1 := Int.emod_nonneg (x / 8) (show (2001 : Int) ≠ 0 by decide)
  have f2 := Int.emod_lt_of_pos (x / 8) (show (0 : Int) < 2001 by decide)
  obtain ⟨e, he, hq⟩ := pick (ds := [.int 1000000, .int (-1000000), .int 999999, .int (-999999)]) (i := x / 8 % 4) (n := 4) rfl c1 c2
  obtain ⟨z, hz, rfl⟩ : ∃ z, B z ∧ e = D.int z := by
    simp only [List.mem_cons, List.not_mem_nil, or_false] at he
    rcases he with rfl | rfl | rfl | rfl
    · exact ⟨_, ⟨by decide, by decide⟩, rfl⟩
    · exact ⟨_, ⟨by decide, by decide⟩, rfl⟩
    · exact ⟨_, ⟨by decide, by decide⟩, rfl⟩
    · exact ⟨_, ⟨by decide, by decide⟩, rfl⟩
  walk_at "ev"
  by_cases h : x % 8 < 4
  · refine ⟨x / 8 % 27 - 6, ⟨by omega, by omega⟩, ?_⟩
    simp only [h, decide_true]
    walk_at "ev"
  · simp only [h, decide_false]
    walk_at "ev"
    simp only [hq]
    walk_at "ev"
    have k1 : 0 ≤ (if x % 8 - 4 < 2 then x % 8 - 4 else 2) := by split <;> omega
    have k2 : (if x % 8 - 4 < 2 then x % 8 - 4 else 2) < 3 := by split <;> omega
    obtain ⟨e, he, hq2⟩ := pick (ds := [.int (x / 8 % 2000001 - 1000000), .int z, .int (x / 8 % 2001 - 1000)]) (n := 3) rfl k1 k2
    simp only [List.mem_cons, List.not_mem_nil, or_false] at he
    rcases he with rfl | rfl | rfl
    · exact ⟨x / 8 % 2000001 - 1000000, ⟨by omega, by omega⟩, by simp only [hq2]; walk_at "ev"⟩
    · exact ⟨z, hz, by simp only [hq2]; walk_at "ev"⟩
    · exact ⟨x / 8 % 2001 - 1000, ⟨by omega, by omega⟩, by simp only [hq2]; walk_at "ev"⟩
/-- a stretch -/
def S (a b : Int) : Prop := -1000000 ≤ a ∧ a ≤ b ∧ b ≤ 1000000
theorem stretch (x y : Int) : ∃ a b, S a b ∧ m_stretch [.int x, .int y] = some (.tup [.int a, .int b]) := by
  walk_at "u stretch"
  obtain ⟨a, ha, e⟩ := number x
  have a1 := Int.emod_nonneg y (show (4 : Int) ≠ 0 by decide)
  have a2 := Int.emod_lt_of_pos y (show (0 : Int) < 4 by decide)
  have b1 := Int.emod_nonneg (y / 4) (show (9 : Int) ≠ 0 by decide)
  have c1 := Int.emod_nonneg (y / 4) (show (3000 : Int) ≠ 0 by decide)
  have d1 := Int.emod_nonneg (y / 4) (show (2000001 : Int) ≠ 0 by decide)
  walk_at "ev"
  simp only [e]
  walk_at "ev"
  obtain ⟨d, hd, hq⟩ := pick (ds := [.int 0, .int (y / 4 % 9), .int (y / 4 % 3000), .int (y / 4 % 2000001)]) (i := y % 4) (n := 4) rfl a1 a2
  obtain ⟨z, hz, rfl⟩ : ∃ z, 0 ≤ z ∧ d = D.int z := by
    simp only [List.mem_cons, List.not_mem_nil, or_false] at hd
    rcases hd with rfl | rfl | rfl | rfl
    · exact ⟨_, by decide, rfl⟩
    · exact ⟨_, b1, rfl⟩
    · exact ⟨_, c1, rfl⟩
    · exact ⟨_, d1, rfl⟩
  simp only [hq]
  walk_at "ev"
  unfold B at ha
  exact ⟨a, _, ⟨by omega, by split <;> omega, by split <;> omega⟩, rfl⟩
/-- min and max as the library has them -/
theorem min_eq (a b : Int) : (if b < a then b else a) = min a b := by omega
theorem max_eq (a b : Int) : (if a < b then b else a) = max a b := by omega
theorem is_st {a b : Int} : m_is_stretch [.tup [.int a, .int b]] = some (.bl true) := by
  walk_at "u is_stretch"
  walk_at "u whole"
  walk_at "ev"
/-- a letter; a name: 1 to 8 letters -/
def Lt (z : Str) : Prop := z.length = 1 ∧ ∀ c ∈ z.cps.toList, 97 ≤ c ∧ c ≤ 122
def Nm (z : Str) : Prop := 1 ≤ z.length ∧ z.length ≤ 8 ∧ ∀ c ∈ z.cps.toList, 97 ≤ c ∧ c ≤ 122
theorem glue_cps (zs : List Str) : (Txt.join "" zs).cps.toList = (zs.map (·.cps.toList)).flatten := by
  have h0 : (Str.ofString "").cps = #[] := by decide +kernel
  have key : ∀ (l : List Str) (acc : Array Nat), (List.foldl (fun acc p => acc ++ (Str.ofString "").cps ++ p.cps) acc l).toList = acc.toList ++ (l.map (·.cps.toList)).flatten := by
    intro l
    induction l with
    | nil => intro acc; simp
    | cons z l ih =>
      intro acc
      rw [List.foldl_cons, ih, h0]
      simp
  show (List.foldl (fun acc p => acc ++ (Str.ofString "").cps ++ p.cps) (zs.headD Str.empty).cps (List.drop 1 zs)).toList = _
  rw [key]
  cases zs with
  | nil => simp; rfl
  | cons z l => simp
theorem nm_join {zs : List Str} (h : ∀ z ∈ zs, Lt z) (h1 : 1 ≤ zs.length) (h8 : zs.length ≤ 8) : Nm (Txt.join "" zs) := by
  have e := glue_cps zs
  have hl : (Txt.join "" zs).length = zs.length := by
    show (Txt.join "" zs).cps.size = _
    rw [← Array.length_toList, e, List.length_flatten, List.map_map]
    clear e h1 h8
    induction zs with
    | nil => rfl
    | cons z l ih =>
      rw [List.map_cons, List.sum_cons, ih fun y hy => h y (List.mem_cons_of_mem _ hy), List.length_cons]
      have : z.cps.toList.length = 1 := by rw [Array.length_toList]; exact (h z List.mem_cons_self).1
      show z.cps.toList.length + l.length = _
      omega
  refine ⟨by omega, by omega, fun c hc => ?_⟩
  rw [e, List.mem_flatten] at hc
  obtain ⟨l, hl, hc⟩ := hc
  obtain ⟨z, hz, rfl⟩ := List.mem_map.mp hl
  exact (h z hz).2 c hc
theorem Nm.ok {z : Str} (h : Nm z) : PyData.strOk z = true := by
  unfold PyData.strOk
  rw [Array.all_eq_true_iff_forall_mem]
  intro c hc
  have := h.2.2 c (Array.mem_toList_iff.mpr hc)
  exact decide_eq_true (by omega)
theorem abc_at {i : Int} (h0 : 0 ≤ i) (h : i < 26) : ∃ z : Str, Lt z ∧ gIx (.str "abcdefghijklmnopqrstuvwxyz") (.int i) = some (.str z) := by
  have hl : ("abcdefghijklmnopqrstuvwxyz" : Str).cps.toList.length = 26 := by decide +kernel
  have hs : ("abcdefghijklmnopqrstuvwxyz" : Str).length ≤ 16777216 := by decide +kernel
  have hk : i.toNat < ("abcdefghijklmnopqrstuvwxyz" : Str).cps.toList.length := by rw [hl]; omega
  have ha : ∀ c ∈ ("abcdefghijklmnopqrstuvwxyz" : Str).cps.toList, 97 ≤ c ∧ c ≤ 122 := by decide +kernel
  refine ⟨⟨#[("abcdefghijklmnopqrstuvwxyz" : Str).cps.toList[i.toNat]]⟩, ⟨rfl, fun c hc => ?_⟩, ?_⟩
  · have : c = ("abcdefghijklmnopqrstuvwxyz" : Str).cps.toList[i.toNat] := by simpa using hc
    rw [this]
    exact ha _ (List.getElem_mem hk)
  show (if ("abcdefghijklmnopqrstuvwxyz" : Str).length ≤ 16777216 then (atI ("abcdefghijklmnopqrstuvwxyz" : Str).cps.toList i).map fun c => D.str ⟨#[c]⟩ else none) = _
  rw [if_pos hs]
  unfold atI
  rw [hl, ixN_in h0 h]
  show (("abcdefghijklmnopqrstuvwxyz" : Str).cps.toList[i.toNat]?).map (fun c => D.str ⟨#[c]⟩) = _
  rw [List.getElem?_eq_getElem hk]
  rfl
theorem row_comp {c st : Int} (hst : 0 ≤ st ∧ st ≤ 25) (n : Option D) (A4 A5 A6 A7 A8 : Option D) : ∀ (ps : List Int), (∀ p ∈ ps, 0 ≤ p ∧ p < 100) → ∃ zs : List Str, zs.length = ps.length ∧ (∀ z ∈ zs, Lt z) ∧
    compD (gPut 8) bYes (eBin gIx (eVar 2) (eBin gMod (eBin gAdd (eBin gDiv (eVar 0) (eC (.int 56))) (eBin gMulI (eVar 8) (eVar 3))) (eC (.int 26)))) [some (.int c), n, some (.str "abcdefghijklmnopqrstuvwxyz"), some (.int st), A4, A5, A6, A7, A8] (ps.map D.int) = some (zs.map D.str)
  | [], _ => ⟨[], rfl, fun z h => (by cases h), rfl⟩
  | p :: ps, h => by
    obtain ⟨zs, h1, h2, h3⟩ := row_comp (c := c) hst n A4 A5 A6 A7 A8 ps fun q hq => h q (List.mem_cons_of_mem _ hq)
    have hp := h p List.mem_cons_self
    have e1 : gMulI (.int p) (.int st) = some (.int (p * st)) := q_mul (by rw [mulOk_of (z := p) (by omega) (by omega)]; rfl)
    obtain ⟨z, z1, z2⟩ := abc_at (i := (c / 56 + p * st) % 26) (Int.emod_nonneg _ (by decide)) (Int.emod_lt_of_pos _ (by decide))
    refine ⟨z :: zs, by rw [List.length_cons, List.length_cons, h1], fun y hy => ?_, ?_⟩
    · rcases List.mem_cons.mp hy with rfl | hy
      · exact z1
      · exact h2 y hy
    · rw [List.map_cons]
      walk_at "ev"
      simp only [e1]
      walk_at "ev"
      simp only [z2, h3]
      walk_at "ev"
theorem strs_map : ∀ zs : List Str, strsOf (zs.map D.str) = some zs
  | [] => rfl
  | z :: zs => by
    rw [List.map_cons]
    show (strsOf (zs.map D.str)).map _ = _
    rw [strs_map zs]
    rfl
theorem sum_ones : ∀ (zs : List Str), (∀ z ∈ zs, z.length = 1) → (zs.map (·.length)).sum = zs.length
  | [], _ => rfl
  | z :: zs, h => by
    rw [List.map_cons, List.sum_cons, sum_ones zs fun y hy => h y (List.mem_cons_of_mem _ hy), h z List.mem_cons_self, List.length_cons]
    omega
theorem join_row {zs : List Str} (h0' : ∀ z ∈ zs, Lt z) (hl : zs.length ≤ 100) : gJoin (.str "") (.lst (zs.map D.str)) = some (.str (Txt.join "" zs)) := by
  have h0 : ("" : Str).length = 0 := by decide +kernel
  have h : ∀ z ∈ zs, z.length = 1 := fun z hz => (h0' z hz).1
  unfold gJoin
  simp only [strs_map, sum_ones zs h, h0]
  rw [if_pos (by omega)]
theorem names_loop {c st : Int} (hst : 0 ≤ st ∧ st ≤ 25) (n : Option D) : ∀ (ks : List Int) (acc : List Str) (o5 o6 o7 o8 : Option D), (∀ k ∈ ks, 0 ≤ k ∧ k < 100) → acc.length + ks.length ≤ 100 → (∀ z ∈ acc, Nm z) →
    ∃ (zs : List Str) (p5 p6 p7 p8 : Option D), (zs.length = acc.length + ks.length ∧ ∀ z ∈ zs, Nm z) ∧ forD (gPut 5) l_names_1 (ks.map D.int) [some (.int c), n, some (.str "abcdefghijklmnopqrstuvwxyz"), some (.int st), some (.lst (acc.map D.str)), o5, o6, o7, o8] =
      .nx [some (.int c), n, some (.str "abcdefghijklmnopqrstuvwxyz"), some (.int st), some (.lst (zs.map D.str)), p5, p6, p7, p8]
  | [], acc, o5, o6, o7, o8, hk, hl, ha => ⟨acc, o5, o6, o7, o8, ⟨rfl, ha⟩, rfl⟩
  | k :: ks, acc, o5, o6, o7, o8, hk, hl, ha => by
    have hk0 := hk k List.mem_cons_self
    rw [List.length_cons] at hl
    obtain ⟨size, hz⟩ : ∃ size, size = 1 + (c / 7 + k * (c % 2)) % 8 := ⟨_, rfl⟩
    have s0 := Int.emod_nonneg (c / 7 + k * (c % 2)) (show (8 : Int) ≠ 0 by decide)
    have s1 := Int.emod_lt_of_pos (c / 7 + k * (c % 2)) (show (0 : Int) < 8 by decide)
    obtain ⟨m, hm⟩ : ∃ m : Nat, size.toNat = m := ⟨_, rfl⟩
    obtain ⟨ps, k1, k2, k3⟩ := rng_ints 0 m
    obtain ⟨row, r1, r2, r3⟩ := row_comp (c := c) hst n (some (.lst (acc.map D.str))) (some (.int k)) (some (.int size)) o7 none ps fun p hp => by have := k3 p hp; omega
    have i0 := Int.emod_nonneg (c / 1456) (show size ≠ 0 by omega)
    have i1 := Int.emod_lt_of_pos (c / 1456) (show (0 : Int) < size by omega)
    obtain ⟨z, z1, z2⟩ := abc_at (i := (c / 56 + 5 * k) % 26) (Int.emod_nonneg _ (by decide)) (Int.emod_lt_of_pos _ (by decide))
    have e1 : gMulI (.int k) (.int (c % 2)) = some (.int (k * (c % 2))) := q_mul (by rw [mulOk_of (z := k) (by omega) (by omega)]; rfl)
    have e2 : gMulI (.int 5) (.int k) = some (.int (5 * k)) := q_mul (by rw [mulOk_of (z := k) (by omega) (by omega)]; simp)
    have e3 : rgR (some (.int size)) = some (ps.map D.int) := by rw [q_rg_s (small_of (by omega) (by omega)), hm, k2]
    have e4 : gMod (.int (c / 1456)) (.int size) = some (.int (c / 1456 % size)) := q_mod (by omega)
    have e5 : ixN (row.map D.str).length (c / 1456 % size) = some (c / 1456 % size).toNat := ixN_in i0 (by rw [List.length_map, r1, k1]; omega)
    have ones : ∀ y ∈ row.set (c / 1456 % size).toNat z, Lt y := fun y hy => by
      rcases List.mem_or_eq_of_mem_set hy with hy | rfl
      · exact r2 y hy
      · exact z1
    have e6 := join_row ones (by rw [List.length_set, r1, k1]; omega)
    obtain ⟨zs, p5, p6, p7, p8, g1, g2⟩ := names_loop (c := c) hst n ks (acc ++ [Txt.join "" (row.set (c / 1456 % size).toNat z)]) (some (.int k)) (some (.int size)) (some (.lst ((row.set (c / 1456 % size).toNat z).map D.str))) o8 (fun q hq => hk q (List.mem_cons_of_mem _ hq)) (by rw [List.length_append]; simp only [List.length_cons, List.length_nil]; omega) (fun y hy => by
      rcases List.mem_append.mp hy with hy | hy
      · exact ha y hy
      · rw [List.mem_singleton] at hy
        subst hy
        exact nm_join ones (by rw [List.length_set, r1, k1]; omega) (by rw [List.length_set, r1, k1]; omega))
    refine ⟨zs, p5, p6, p7, p8, ⟨by rw [g1.1, List.length_append]; simp only [List.length_cons, List.length_nil]; omega, g1.2⟩, ?_⟩
    have e7 : (acc.map D.str).length < 16777216 := by rw [List.length_map]; omega
    have e8 : (ps.map D.int).length ≤ 16777216 := by rw [List.length_map, k1]; omega
    rw [List.map_cons]
    unfold forD
    walk_at "ul names"
    walk_at "ev"
    simp only [e1]
    walk_at "ev"
    simp only [← hz, e3, q_comp_s e8, r3]
    walk_at "ev"
    simp only [e2, e4]
    walk_at "ev"
    simp only [z2, q_lput_s e5, ← List.map_set]
    walk_at "ev"
    simp only [e6, q_app_s e7]
    walk_at "ev"
    rw [← g2, List.map_append]
    rfl
theorem names {c : Int} (n : Nat) (hn : n ≤ 100) : ∃ zs : List Str, (zs.length = n ∧ ∀ z ∈ zs, Nm z) ∧ m_names [.int c, .int n] = some (.lst (zs.map D.str)) := by
  obtain ⟨ks, k1, k2, k3⟩ := rng_ints 0 n
  have h0 := Int.emod_nonneg (c / 3) (show (25 : Int) ≠ 0 by decide)
  have h1 := Int.emod_lt_of_pos (c / 3) (show (0 : Int) < 25 by decide)
  obtain ⟨zs, p5, p6, p7, p8, g1, g2⟩ := names_loop (c := c) (st := 1 + c / 3 % 25) (by omega) (some (.int n)) ks [] none none none none (fun k hk => by have := k3 k hk; omega) (by rw [List.length_nil, k1]; omega) (fun z hz => by cases hz)
  refine ⟨zs, ⟨by rw [g1.1, k1, List.length_nil, Nat.zero_add], g1.2⟩, ?_⟩
  have e1 : rgR (some (.int (n : Int))) = some (ks.map D.int) := by rw [q_rg_s (small_of (by omega) (by omega)), Int.toNat_natCast, k2]
  walk_at "u names"
  walk_at "ev"
  simp only [e1]
  walk_at "ev"
  rw [List.map_nil] at g2
  simp only [g2]
  walk_at "ev"
/-! expressions, by data -/
inductive Op where
  | add | sub | mul
def Op.s : Op → Str
  | .add => "+"
  | .sub => "-"
  | .mul => "*"
def Op.f : Op → Int → Int → Int
  | .add, a, b => a + b
  | .sub, a, b => a - b
  | .mul, a, b => a * b
def lim (i : Int) : Option Int := if i < -1000000 ∨ 1000000 < i then none else some i
def cnt (o : Op) : Option Int → Option Int → Option Int
  | some a, some b => lim (o.f a b)
  | _, _ => none
def rst (m : Int) : Option Int → Option Int
  | some a => some (a % m)
  | none => none
def o2 : Option Int → D
  | none => .non
  | some i => .int i
inductive Ex (es : List (Key × D)) : Nat → Option Int → D → Prop
  | int {n : Nat} {i : Int} : B i → Ex es (n + 1) (some i) (.int i)
  | name {n : Nat} {x : Str} {i : Int} : lookD es (.inr x) = some (.int i) → B i → Ex es (n + 1) (some i) (.str x)
  | rest {n : Nat} {w : Option Int} {d : D} {m : Int} : Ex es n w d → 1 ≤ m → m ≤ 1000000 → Ex es (n + 1) (rst m w) (.tup [.str "rest", d, .int m])
  | op {n : Nat} (o : Op) {w w' : Option Int} {d d' : D} : Ex es n w d → Ex es n w' d' → Ex es (n + 1) (cnt o w w') (.tup [.str o.s, d, d'])
theorem lim_B {i j : Int} (h : lim i = some j) : B j := by
  unfold lim at h
  split at h
  · cases h
  · cases h; unfold B; omega
theorem Ex.B {es : List (Key × D)} {n : Nat} {w : Option Int} {d : D} (h : Ex es n w d) : ∀ i, w = some i → B i := by
  induction h with
  | int b => intro i e; cases e; exact b
  | name _ b => intro i e; cases e; exact b
  | @rest n w d m _ h1 h2 ih =>
    intro i e
    cases w with
    | none => cases e
    | some a =>
      cases e
      have := Int.emod_nonneg a (show m ≠ 0 by omega)
      have := Int.emod_lt_of_pos a (show 0 < m by omega)
      exact ⟨by omega, by omega⟩
  | @op n o w w' d d' _ _ ih ih' =>
    intro i e
    cases w with
    | none => cases e
    | some a =>
      cases w' with
      | none => cases e
      | some b => exact lim_B e
theorem beq_t {a b : Int} (h : a = b) : (a == b) = true := by simpa using h
theorem beq_f {a b : Int} (h : ¬ a = b) : (a == b) = false := by simpa using h
theorem mulB {a b : Int} (h : B a) : gMulI (.int a) (.int b) = some (.int (a * b)) := q_mul (by unfold B at h; rw [mulOk_of (z := a) (by omega) (by omega)]; rfl)
theorem worth_int {es : List (Key × D)} {n : Nat} {m : Int} : m_worth (n + 1) [.int m, .dct es] = some (.int m) := by
  show runD 5 (b_worth (m_worth n)) [.int m, .dct es] = some (.int m)
  walk_at "u worth"
  walk_at "ev"
theorem Ex.pos {es : List (Key × D)} {n : Nat} {w : Option Int} {d : D} (h : Ex es n w d) : ∃ k, n = k + 1 := by
  cases h <;> exact ⟨_, rfl⟩
theorem worth {es : List (Key × D)} {n : Nat} {w : Option Int} {d : D} (h : Ex es n w d) : m_worth n [d, .dct es] = some (o2 w) := by
  induction h with
  | @int n i b => exact worth_int
  | @name n x i e b =>
    show runD 5 (b_worth (m_worth n)) [.str x, .dct es] = some (.int i)
    walk_at "u worth"
    walk_at "ev"
    simp only [e]
    walk_at "ev"
  | @rest n w d m h h1 h2 ih =>
    show runD 5 (b_worth (m_worth n)) [.tup [.str "rest", d, .int m], .dct es] = some (o2 (rst m w))
    obtain ⟨k, rfl⟩ := h.pos
    have e := worth_int (es := es) (n := k) (m := m)
    cases w with
    | none =>
      have ih' : m_worth (k + 1) [d, .dct es] = some .non := ih
      show _ = some D.non
      walk_at "u worth"
      walk_at "ev"
      simp only [ih']
      walk_at "ev"
      simp only [e]
      walk_at "ev"
    | some a =>
      have ih' : m_worth (k + 1) [d, .dct es] = some (.int a) := ih
      show _ = some (D.int (a % m))
      have e1 : gDiv (.int a) (.int m) = some (.int (a / m)) := q_div (by omega) (by omega)
      have hm : B m := ⟨by omega, by omega⟩
      have e2 : gMulI (.int (a / m)) (.int m) = some (.int (a / m * m)) := q_mul (by unfold B at hm; rw [mulOk_of (z := m) (by omega) (by omega)]; simp)
      have e3 : a - a / m * m = a % m := by
        have := Int.emod_add_mul_ediv a m
        rw [Int.mul_comm m] at this
        omega
      walk_at "u worth"
      walk_at "ev"
      simp only [ih']
      walk_at "ev"
      simp only [e]
      walk_at "ev"
      simp only [e1]
      walk_at "ev"
      simp only [e2]
      walk_at "ev"
      rw [e3]
  | @op n o w w' d d' h h' ih ih' =>
    show runD 5 (b_worth (m_worth n)) [.tup [.str o.s, d, d'], .dct es] = some (o2 (cnt o w w'))
    have s : eqvD (.str o.s) (.str "rest") = some false := by cases o <;> decide +kernel
    cases w with
    | none =>
      have i1 : m_worth n [d, .dct es] = some .non := ih
      show _ = some D.non
      walk_at "u worth"
      walk_at "ev"
      simp only [i1]
      walk_at "ev"
      simp only [ih']
      walk_at "ev"
    | some a =>
      cases w' with
      | none =>
        have i1 : m_worth n [d, .dct es] = some (.int a) := ih
        have i2 : m_worth n [d', .dct es] = some .non := ih'
        show _ = some D.non
        walk_at "u worth"
        walk_at "ev"
        simp only [i1]
        walk_at "ev"
        simp only [i2]
        walk_at "ev"
      | some b =>
        have i1 : m_worth n [d, .dct es] = some (.int a) := ih
        have i2 : m_worth n [d', .dct es] = some (.int b) := ih'
        have e1 := mulB (b := b) (h.B a rfl)
        obtain ⟨r, hr⟩ : ∃ r, o.f a b = r := ⟨_, rfl⟩
        have c3 : (o2 (cnt o (some a) (some b))) = if (decide (r < -1000000) || decide (1000000 < r)) = true then BW.D.non else .int r := by
          show o2 (lim (o.f a b)) = _
          rw [hr]
          unfold lim
          by_cases c : r < -1000000 ∨ 1000000 < r
          · rw [if_pos c, if_pos (by simpa using c)]; rfl
          · rw [if_neg c, if_neg (by simpa using c)]; rfl
        rw [c3]
        clear c3
        subst hr
        walk_at "u worth"
        walk_at "ev"
        simp only [i1]
        walk_at "ev"
        simp only [i2]
        walk_at "ev"
        simp only [s]
        walk_at "ev"
        simp only [e1]
        walk_at "ev"
        cases o with
        | add =>
          show _ = some (if (decide (a + b < -1000000) || decide (1000000 < a + b)) = true then BW.D.non else .int (a + b))
          simp only [Op.s]
          walk_at "ev"
          cases c1 : decide (a + b < -1000000) <;> cases c2 : decide (1000000 < a + b) <;> walk_at "ev"
        | sub =>
          show _ = some (if (decide (a - b < -1000000) || decide (1000000 < a - b)) = true then BW.D.non else .int (a - b))
          simp only [Op.s]
          walk_at "ev"
          cases c1 : decide (a - b < -1000000) <;> cases c2 : decide (1000000 < a - b) <;> walk_at "ev"
        | mul =>
          show _ = some (if (decide (a * b < -1000000) || decide (1000000 < a * b)) = true then BW.D.non else .int (a * b))
          simp only [Op.s]
          walk_at "ev"
          cases c1 : decide (a * b < -1000000) <;> cases c2 : decide (1000000 < a * b) <;> walk_at "ev"
/-! dicts that are filled key by key -/
structure Kd (Pv : Key → D → Prop) (es : List (Key × D)) (done : List Key) : Prop where
  nd : (es.map (·.1)).Nodup
  b : ∀ p ∈ es, Pv p.1 p.2
  has : ∀ k, k ∈ es.map (·.1) ↔ k ∈ done
  len : es.length ≤ done.length
theorem keysD (es : List (Key × D)) (k : Key) (d : D) : (storeD es k d).map (·.1) = if (es.any fun p => decide (p.1 = k)) = true then es.map (·.1) else es.map (·.1) ++ [k] := by
  unfold storeD
  split
  · rw [List.map_map]
    refine List.map_congr_left fun p _ => ?_
    show (if p.1 = k then (p.1, d) else p).1 = p.1
    split <;> rfl
  · rw [List.map_append]
    rfl
theorem anyD {es : List (Key × D)} {k : Key} : (es.any fun p => decide (p.1 = k)) = true ↔ k ∈ es.map (·.1) := by
  rw [List.any_eq_true, List.mem_map]
  exact ⟨fun ⟨p, hp, e⟩ => ⟨p, hp, of_decide_eq_true e⟩, fun ⟨p, hp, e⟩ => ⟨p, hp, decide_eq_true e⟩⟩
theorem lookD_mem : ∀ {es : List (Key × D)} {p : Key × D}, (es.map (·.1)).Nodup → p ∈ es → lookD es p.1 = some p.2
  | x :: es, p, h, hp => by
    rw [List.map_cons, List.nodup_cons] at h
    unfold lookD
    rcases List.mem_cons.mp hp with rfl | hp
    · rw [List.find?_cons_of_pos (by simp)]
      rfl
    · rw [List.find?_cons_of_neg (by
        have : ¬ x.1 = p.1 := fun e => h.1 (e ▸ List.mem_map_of_mem hp)
        simpa using this)]
      exact lookD_mem h.2 hp
theorem Kd.nil {Pv : Key → D → Prop} : Kd Pv [] [] := ⟨by simp, fun p hp => (by cases hp), fun k => by simp, by simp⟩
theorem Kd.look {Pv : Key → D → Prop} {es : List (Key × D)} {done : List Key} (h : Kd Pv es done) {k : Key} (hk : k ∈ done) : ∃ d, lookD es k = some d ∧ Pv k d := by
  obtain ⟨p, h1, h2⟩ := List.mem_map.mp ((h.has k).mpr hk)
  subst h2
  exact ⟨p.2, lookD_mem h.nd h1, h.b p h1⟩
theorem storeD_nd {es : List (Key × D)} (h : (es.map (·.1)).Nodup) (k : Key) (d : D) : ((storeD es k d).map (·.1)).Nodup := by
  rw [keysD]
  split
  · exact h
  · rename_i c
    rw [List.nodup_append]
    refine ⟨h, by simp, fun a ha b hb e => ?_⟩
    rw [List.mem_singleton] at hb
    subst hb
    subst e
    exact c (anyD.mpr ha)
theorem storeD_all {Pv : Key → D → Prop} {es : List (Key × D)} {k : Key} {d : D} (h : ∀ p ∈ es, Pv p.1 p.2) (hd : Pv k d) : ∀ p ∈ storeD es k d, Pv p.1 p.2 := fun p hp => by
  unfold storeD at hp
  split at hp
  · obtain ⟨q, hq, rfl⟩ := List.mem_map.mp hp
    by_cases e : q.1 = k
    · rw [if_pos e]; subst e; exact hd
    · rw [if_neg e]; exact h q hq
  · rcases List.mem_append.mp hp with hp | hp
    · exact h p hp
    · rw [List.mem_singleton] at hp
      subst hp
      exact hd
theorem storeD_has (es : List (Key × D)) (k : Key) (d : D) (x : Key) : x ∈ (storeD es k d).map (·.1) ↔ x ∈ es.map (·.1) ∨ x = k := by
  rw [keysD]
  split
  · rename_i c
    exact ⟨.inl, fun z => z.elim id fun e => by subst e; exact anyD.mp c⟩
  · rw [List.mem_append, List.mem_singleton]
theorem storeD_len (es : List (Key × D)) (k : Key) (d : D) : (storeD es k d).length ≤ es.length + 1 ∧ ((es.any fun p => decide (p.1 = k)) = true → (storeD es k d).length = es.length) := by
  unfold storeD
  split
  · rw [List.length_map]; exact ⟨by omega, fun _ => rfl⟩
  · rename_i c
    rw [List.length_append]
    exact ⟨by simp, fun z => absurd z c⟩
theorem Kd.put {Pv : Key → D → Prop} {es : List (Key × D)} {done : List Key} (h : Kd Pv es done) (k : Key) {d : D} (hd : Pv k d) : Kd Pv (storeD es k d) (done ++ [k]) where
  nd := storeD_nd h.nd k d
  b := storeD_all h.b hd
  has x := by rw [storeD_has, h.has x, List.mem_append, List.mem_singleton]
  len := by
    have := (storeD_len es k d).1
    have := h.len
    rw [List.length_append]
    simp only [List.length_cons, List.length_nil]
    omega
/-- over a key that is there -/
theorem Kd.over {Pv : Key → D → Prop} {es : List (Key × D)} {done : List Key} (h : Kd Pv es done) {k : Key} (hk : k ∈ done) {d : D} (hd : Pv k d) : Kd Pv (storeD es k d) done where
  nd := storeD_nd h.nd k d
  b := storeD_all h.b hd
  has x := by
    rw [storeD_has, h.has x]
    exact ⟨fun z => z.elim id fun e => e ▸ hk, .inl⟩
  len := by
    rw [(storeD_len es k d).2 (anyD.mpr ((h.has k).mpr hk))]
    exact h.len
/-- a stretch, as a thing -/
def isS (_ : Key) (d : D) : Prop := ∃ a b, S a b ∧ d = .tup [.int a, .int b]
theorem known_loop (x0 : Int) (R0 : R x0) (zs : List Str) (hl : zs.length ≤ 100) : ∀ (todo done : List Str) (es : List (Key × D)) (o3 o4 : Option D), zs = done ++ todo → Kd isS es (done.map Sum.inr) →
    ∃ (es' : List (Key × D)) (p3 p4 : Option D), Kd isS es' (zs.map Sum.inr) ∧ forD (gPut 3) l_known_1 (rng (done.length : Nat) todo.length) [some (.lst [.int x0]), some (.lst (zs.map D.str)), some (.dct es), o3, o4] =
      .nx [some (.lst [.int x0]), some (.lst (zs.map D.str)), some (.dct es'), p3, p4]
  | [], done, es, o3, o4, hz, h => ⟨es, o3, o4, by rw [hz, List.append_nil]; exact h, rfl⟩
  | z :: todo, done, es, o3, o4, hz, h => by
    have hlen : zs.length = done.length + (todo.length + 1) := by rw [hz, List.length_append, List.length_cons]
    obtain ⟨s, s1, s2, e2⟩ := stream (x0 + 7 * (done.length : Nat)) 2 (by decide)
    obtain ⟨y0, y1, rfl⟩ : ∃ y0 y1, s = [y0, y1] := by
      match s, s1 with
      | [y0, y1], _ => exact ⟨y0, y1, rfl⟩
    obtain ⟨a, b, hs, e3⟩ := stretch y0 y1
    have e4 : atI (zs.map D.str) ((done.length : Nat) : Int) = some (.str z) := by
      refine atI_nat ?_
      rw [hz, List.map_append, List.map_cons, List.getElem?_append_right (by rw [List.length_map]; omega), List.length_map, Nat.sub_self]
      rfl
    have h1 : Kd isS (storeD es (.inr z) (.tup [.int a, .int b])) ((done ++ [z]).map Sum.inr) := by
      rw [List.map_append]
      exact h.put (.inr z) ⟨a, b, hs, rfl⟩
    obtain ⟨z0, m0, e5⟩ : ∃ z0, z0 ∈ done ++ [z] ∧ atI (zs.map D.str) 0 = some (.str z0) := by
      cases done with
      | nil => exact ⟨z, by simp, by rw [hz]; exact atI0⟩
      | cons z0 r => exact ⟨z0, by simp, by rw [hz]; exact atI0⟩
    obtain ⟨d0, e6, i0⟩ := h1.look (k := .inr z0) (List.mem_map.mpr ⟨z0, m0, rfl⟩)
    have h2 : Kd isS (storeD (storeD es (.inr z) (.tup [.int a, .int b])) (.inr z) d0) ((done ++ [z]).map Sum.inr) := h1.over (k := .inr z) (by simp) i0
    have l1 : es.length < 16777216 := by have := h.len; rw [List.length_map] at this; omega
    have l2 : (storeD es (.inr z) (.tup [.int a, .int b])).length < 16777216 := by have := h1.len; rw [List.length_map, List.length_append] at this; simp at this; omega
    have e7 : gMulI (.int 7) (.int (done.length : Nat)) = some (.int (7 * (done.length : Nat))) := q_mul (by rw [mulOk_of (z := 7) (by omega) (by omega)]; rfl)
    have step : ∀ c : Bool, (y0 / 8 % 5 == 0) = c → l_known_1 [some (.lst [.int x0]), some (.lst (zs.map D.str)), some (.dct es), some (.int (done.length : Nat)), o4] =
        .nx [some (.lst [.int x0]), some (.lst (zs.map D.str)), some (.dct (if c then storeD (storeD es (.inr z) (.tup [.int a, .int b])) (.inr z) d0 else storeD es (.inr z) (.tup [.int a, .int b]))), some (.int (done.length : Nat)), some (.lst [.int y0, .int y1])] := fun c hc => by
      have e2' : m_stream [.int (x0 + 7 * (done.length : Nat)), .int 2] = some (.lst [.int y0, .int y1]) := e2
      walk_at "ul known"
      walk_at "ev"
      simp only [e7]
      walk_at "ev"
      simp only [e2']
      walk_at "ev"
      simp only [e3, e4]
      walk_at "ev"
      simp only [q_dput_s l1]
      walk_at "ev"
      simp only [hc]
      cases c
      · walk_at "ev"
      · walk_at "ev"
        simp only [e4, e5]
        walk_at "ev"
        simp only [e6, q_dput_s l2]
        walk_at "ev"
    cases hc : y0 / 8 % 5 == 0 with
    | false =>
      obtain ⟨es', p3, p4, g1, g2⟩ := known_loop x0 R0 zs hl todo (done ++ [z]) _ (some (.int (done.length : Nat))) (some (.lst [.int y0, .int y1])) (by rw [hz, List.append_assoc]; rfl) h1
      refine ⟨es', p3, p4, g1, ?_⟩
      rw [List.length_cons, rng_succ, q_forD]
      show forR2 (gPut 3) l_known_1 _ (some [some (.lst [.int x0]), some (.lst (zs.map D.str)), some (.dct es), some (.int (done.length : Nat)), o4]) = _
      rw [q_for2, step _ hc]
      rw [List.length_append] at g2
      rw [← g2]
      rfl
    | true =>
      obtain ⟨es', p3, p4, g1, g2⟩ := known_loop x0 R0 zs hl todo (done ++ [z]) _ (some (.int (done.length : Nat))) (some (.lst [.int y0, .int y1])) (by rw [hz, List.append_assoc]; rfl) h2
      refine ⟨es', p3, p4, g1, ?_⟩
      rw [List.length_cons, rng_succ, q_forD]
      show forR2 (gPut 3) l_known_1 _ (some [some (.lst [.int x0]), some (.lst (zs.map D.str)), some (.dct es), some (.int (done.length : Nat)), o4]) = _
      rw [q_for2, step _ hc]
      rw [List.length_append] at g2
      rw [← g2]
      rfl
theorem known (x0 : Int) (R0 : R x0) (zs : List Str) (hl : zs.length ≤ 100) : ∃ es, Kd isS es (zs.map Sum.inr) ∧ m_known [.lst [.int x0], .lst (zs.map D.str)] = some (.dct es) := by
  obtain ⟨es, p3, p4, h, e⟩ := known_loop x0 R0 zs hl zs [] [] none none rfl Kd.nil
  refine ⟨es, h, ?_⟩
  have r1 : rgR (some (.int (zs.length : Nat))) = some (rng 0 zs.length) := by rw [q_rg_s (small_of (by omega) (by omega)), Int.toNat_natCast]
  walk_at "u known"
  walk_at "ev"
  simp only [r1]
  walk_at "ev"
  have e' : forD (gPut 3) l_known_1 (rng 0 zs.length) [some (.lst [.int x0]), some (.lst (zs.map D.str)), some (.dct []), none, none] = _ := e
  simp only [e']
  walk_at "ev"
theorem one_of {a b : Int} (h : S a b) (x : Int) : ∃ n, a ≤ n ∧ n ≤ b ∧ m_one_of [.tup [.int a, .int b], .int x] = some (.int n) := by
  walk_at "u one_of"
  unfold S at h
  have a1 := Int.emod_nonneg x (show (4 : Int) ≠ 0 by decide)
  walk_at "ev"
  by_cases c : x % 4 < 2
  · obtain ⟨g, hg, hq⟩ := pick (ds := [.int a, .int b]) (i := x % 4) (n := 2) rfl a1 c
    simp only [c, decide_true]
    walk_at "ev"
    simp only [hq]
    simp only [List.mem_cons, List.not_mem_nil, or_false] at hg
    rcases hg with rfl | rfl
    · exact ⟨a, by omega, by omega, by walk_at "ev"⟩
    · exact ⟨b, by omega, by omega, by walk_at "ev"⟩
  · have hp : 0 < b - a + 1 := by omega
    have h1 := Int.emod_nonneg (x / 4) (show b - a + 1 ≠ 0 by omega)
    have h2 := Int.emod_lt_of_pos (x / 4) hp
    simp only [c, decide_false]
    walk_at "ev"
    simp only [q_mod hp]
    exact ⟨a + x / 4 % (b - a + 1), by omega, by omega, by walk_at "ev"⟩
def cutS (lo hi : Int) : D := if hi < -1000000 ∨ 1000000 < lo then .non else .tup [.int (max lo (-1000000)), .int (min hi 1000000)]
theorem p_cut {lo hi : Int} (h : lo ≤ hi) : m_p_cut [.int lo, .int hi] = some (cutS lo hi) := by
  walk_at "u p_cut"
  walk_at "u p_met"
  walk_at "ev"
  simp only [min_eq, max_eq]
  unfold cutS
  by_cases c : min hi 1000000 < max lo (-1000000)
  · simp only [c, decide_true]
    walk_at "ev"
    rw [if_pos (by omega)]
  · simp only [c, decide_false]
    walk_at "ev"
    rw [if_neg (by omega)]
theorem cut {lo hi : Int} : m_cut [.int lo, .int hi] = some (cutS lo hi) := by
  walk_at "u cut"
  walk_at "ev"
  unfold cutS
  by_cases c : hi < -1000000 ∨ 1000000 < lo
  · rw [if_pos c]
    have : (decide (hi < -1000000) || decide (1000000 < lo)) = true := by simpa using c
    simp only [this]
    walk_at "ev"
  · rw [if_neg c]
    have : (decide (hi < -1000000) || decide (1000000 < lo)) = false := by simpa using c
    simp only [this]
    walk_at "ev"
    have e1 : (if lo < -1000000 then (-1000000 : Int) else lo) = max lo (-1000000) := by omega
    have e2 : (if 1000000 < hi then (1000000 : Int) else hi) = min hi 1000000 := by omega
    simp only [e1, e2]
theorem plus_eq {a b c d : Int} (h : S a b) (h' : S c d) : m_p_plus [.tup [.int a, .int b], .tup [.int c, .int d]] = some (cutS (a + c) (b + d)) := by
  unfold S at h h'
  have := p_cut (show a + c ≤ b + d by omega)
  walk_at "u p_plus"
  walk_at "evh"
theorem minus_eq {a b c d : Int} (h : S a b) (h' : S c d) : m_p_minus [.tup [.int a, .int b], .tup [.int c, .int d]] = some (cutS (a - d) (b - c)) := by
  unfold S at h h'
  have := p_cut (show a - d ≤ b - c by omega)
  walk_at "u p_minus"
  walk_at "evh"
def lo4 (p q r s : Int) : Int := minL p [q, r, s]
def hi4 (p q r s : Int) : Int := maxL p [q, r, s]
theorem lo4_le (p q r s : Int) : lo4 p q r s ≤ hi4 p q r s := Int.le_trans (minL_le _ _).1 (maxL_ge _ _).1
theorem bnd {a b : Int} (h : S a b) {n : Int} (h1 : a ≤ n) (h2 : n ≤ b) : -1000000 ≤ n ∧ n ≤ 1000000 := by
  unfold S at h
  omega
/-- a product lies between the least and the greatest product of ends -/
theorem between {a b c d x y : Int} (h1 : a ≤ x) (h2 : x ≤ b) (h3 : c ≤ y) (h4 : y ≤ d) : lo4 (a * c) (a * d) (b * c) (b * d) ≤ x * y ∧ x * y ≤ hi4 (a * c) (a * d) (b * c) (b * d) := by
  have l0 := (minL_le [a * d, b * c, b * d] (a * c)).1
  have l1 := (minL_le [a * d, b * c, b * d] (a * c)).2 (a * d) (by simp)
  have l2 := (minL_le [a * d, b * c, b * d] (a * c)).2 (b * c) (by simp)
  have l3 := (minL_le [a * d, b * c, b * d] (a * c)).2 (b * d) (by simp)
  have u0 := (maxL_ge [a * d, b * c, b * d] (a * c)).1
  have u1 := (maxL_ge [a * d, b * c, b * d] (a * c)).2 (a * d) (by simp)
  have u2 := (maxL_ge [a * d, b * c, b * d] (a * c)).2 (b * c) (by simp)
  have u3 := (maxL_ge [a * d, b * c, b * d] (a * c)).2 (b * d) (by simp)
  unfold lo4 hi4
  -- x y between a y and b y, each of these between two products of ends
  have e1 : ∀ z : Int, (a * c ≤ a * z ∨ a * d ≤ a * z) ∨ a * z = a * z := fun _ => .inr rfl
  have m1 : min (a * c) (a * d) ≤ a * y ∧ a * y ≤ max (a * c) (a * d) := by
    rcases Int.le_total 0 a with h | h
    · have := Int.mul_le_mul_of_nonneg_left h3 h
      have := Int.mul_le_mul_of_nonneg_left h4 h
      omega
    · have := Int.mul_le_mul_of_nonpos_left h h3
      have := Int.mul_le_mul_of_nonpos_left h h4
      omega
  have m2 : min (b * c) (b * d) ≤ b * y ∧ b * y ≤ max (b * c) (b * d) := by
    rcases Int.le_total 0 b with h | h
    · have := Int.mul_le_mul_of_nonneg_left h3 h
      have := Int.mul_le_mul_of_nonneg_left h4 h
      omega
    · have := Int.mul_le_mul_of_nonpos_left h h3
      have := Int.mul_le_mul_of_nonpos_left h h4
      omega
  have m3 : min (a * y) (b * y) ≤ x * y ∧ x * y ≤ max (a * y) (b * y) := by
    rcases Int.le_total 0 y with h | h
    · have := Int.mul_le_mul_of_nonneg_right h1 h
      have := Int.mul_le_mul_of_nonneg_right h2 h
      omega
    · have := Int.mul_le_mul_of_nonpos_right h1 h
      have := Int.mul_le_mul_of_nonpos_right h2 h
      omega
  omega
theorem mulOkB {x y : Int} (h : -1000000 ≤ x ∧ x ≤ 1000000) : (mulOk x || mulOk y) = true := by
  rw [mulOk_of (by omega) (by omega)]; rfl
theorem times_eq {a b c d : Int} (h : S a b) (h' : S c d) : m_p_times [.tup [.int a, .int b], .tup [.int c, .int d]] = some (cutS (lo4 (a * c) (a * d) (b * c) (b * d)) (hi4 (a * c) (a * d) (b * c) (b * d))) := by
  have ha := bnd h (Int.le_refl a) h.2.1
  have hb := bnd h h.2.1 (Int.le_refl b)
  have e1 : gMulI (.int a) (.int c) = some (.int (a * c)) := q_mul (mulOkB ha)
  have e2 : gMulI (.int a) (.int d) = some (.int (a * d)) := q_mul (mulOkB ha)
  have e3 : gMulI (.int b) (.int c) = some (.int (b * c)) := q_mul (mulOkB hb)
  have e4 : gMulI (.int b) (.int d) = some (.int (b * d)) := q_mul (mulOkB hb)
  have e5 := p_cut (lo4_le (a * c) (a * d) (b * c) (b * d))
  have e6 : gMin [.lst [.int (a * c), .int (a * d), .int (b * c), .int (b * d)]] = some (.int (lo4 (a * c) (a * d) (b * c) (b * d))) := rfl
  have e7 : gMax [.lst [.int (a * c), .int (a * d), .int (b * c), .int (b * d)]] = some (.int (hi4 (a * c) (a * d) (b * c) (b * d))) := rfl
  walk_at "u p_times"
  have e8 : eComp2 (iTupD (eVar 0)) (gPut 3) bYes [3, 4] (iTupD (eVar 1)) (gPut 4) bYes [4] (eBin gMulI (eVar 3) (eVar 4)) [some (.tup [.int a, .int b]), some (.tup [.int c, .int d]), none, none, none] = some (.lst [.int (a * c), .int (a * d), .int (b * c), .int (b * d)]) := by
    refine q_comp2 (ds := [.int a, .int b]) rfl ?_ (show 4 ≤ 16777216 by decide)
    walk_at "ev"
    simp only [e1, e2, e3, e4]
    walk_at "ev"
  clear ha hb
  walk_at "evh"
theorem rest_eq {a b y : Int} (h : S a b) (hy : 0 < y) (hy2 : y < 1073741824) : m_p_rest [.tup [.int a, .int b], .int y] = some (if a / y = b / y then .tup [.int (a % y), .int (b % y)] else .tup [.int 0, .int (y - 1)]) := by
  have hn : ¬ y < 1 := by omega
  walk_at "u p_rest"
  walk_at "ev"
  simp only [hn, decide_false]
  walk_at "ev"
  simp only [q_div hy hy2]
  walk_at "ev"
  have c3 : (if a / y = b / y then some true else some false) = some (a / y == b / y) := by
    by_cases c : a / y = b / y
    · rw [if_pos c, beq_iff_eq.mpr c]
    · rw [if_neg c, beq_eq_false_iff_ne.mpr c]
  by_cases c : a / y = b / y
  · rw [if_pos c, beq_iff_eq.mpr c]
    walk_at "ev"
    simp only [q_mod hy]
    walk_at "ev"
  · rw [if_neg c, beq_eq_false_iff_ne.mpr c]
    walk_at "ev"
/-- what is left lies there -/
theorem rest_in {a b y n : Int} (hy : 0 < y) (h1 : a ≤ n) (h2 : n ≤ b) (h : a / y = b / y) : a % y ≤ n % y ∧ n % y ≤ b % y := by
  have e1 : a / y ≤ n / y := Int.ediv_le_ediv hy h1
  have e2 : n / y ≤ b / y := Int.ediv_le_ediv hy h2
  have e3 : n / y = a / y := by omega
  have f1 := Int.emod_add_mul_ediv a y
  have f2 := Int.emod_add_mul_ediv n y
  have f3 := Int.emod_add_mul_ediv b y
  rw [e3] at f2
  rw [← h] at f3
  omega
/-- what is true of numbers and names, and kept by the signs -/
structure Alg (P : Nat → D → Prop) (zs : List Str) : Prop where
  ne : 0 < zs.length
  int : ∀ n i, B i → P (n + 1) (.int i)
  name : ∀ n z, z ∈ zs → P (n + 1) (.str z)
  rest : ∀ n d m, P n d → 1 ≤ m → m ≤ 1000000 → P (n + 1) (.tup [.str "rest", d, .int m])
  op : ∀ n (o : Op) d d', P n d → P n d' → P (n + 1) (.tup [.str o.s, d, d'])
theorem leafA {P : Nat → D → Prop} {zs : List Str} (A : Alg P zs) (x : Int) (n : Nat) : ∃ d, P (n + 1) d ∧ m_leaf [.int x, .lst (zs.map D.str)] = some d := by
  obtain ⟨y, hy, e1⟩ := number (x / 3)
  have hp : (0 : Int) < (zs.map D.str).length := by rw [List.length_map]; have := A.ne; omega
  have e2 := q_mod (a := x / 3) hp
  obtain ⟨z', hz', e3⟩ := atI_mem (ds := zs.map D.str) (i := x / 3 % ((zs.map D.str).length : Int)) (Int.emod_nonneg _ (by omega)) (Int.emod_lt_of_pos _ hp)
  obtain ⟨z, hz, rfl⟩ := List.mem_map.mp hz'
  rw [List.length_map] at e2 e3
  have step : ∀ c : Bool, decide (0 < x % 3) = c → m_leaf [.int x, .lst (zs.map D.str)] = some (if c then .str z else .int y) := fun c hc => by
    walk_at "u leaf"
    walk_at "ev"
    simp only [e1, e2]
    walk_at "ev"
    simp only [e3]
    walk_at "ev"
    simp only [hc]
    cases c <;> walk_at "ev"
  cases hc : decide (0 < x % 3) with
  | false => exact ⟨_, A.int _ _ hy, step _ hc⟩
  | true => exact ⟨_, A.name _ _ hz, step _ hc⟩
theorem treeA {P : Nat → D → Prop} {zs : List Str} (A : Alg P zs) : ∀ (n : Nat) (deep x : Int), 1 ≤ deep → deep ≤ n → ∃ d, P n d ∧ m_tree n [.int x, .lst (zs.map D.str), .int deep] = some d
  | 0, deep, x, h1, h2 => absurd h2 (by omega)
  | n + 1, deep, x, h1, h2 => by
    by_cases c : (deep == 1 || x % 5 == 0) = true
    · obtain ⟨d, h, e⟩ := leafA A (x / 5) n
      refine ⟨d, h, ?_⟩
      show runD 5 (b_tree (m_tree n)) [.int x, .lst (zs.map D.str), .int deep] = some d
      walk_at "u tree"
      cases c1 : deep == 1 <;> cases c2 : x % 5 == 0
      · rw [c1, c2] at c; cases c
      all_goals
        walk_at "ev"
        simp only [c1, c2]
        walk_at "ev"
        simp only [e]
        walk_at "ev"
    · have c1 : (deep == 1) = false := by cases q : deep == 1 with | false => rfl | true => rw [q] at c; simp at c
      have c2 : (x % 5 == 0) = false := by cases q : x % 5 == 0 with | false => rfl | true => rw [q] at c; simp at c
      have d1 : deep ≠ 1 := by simpa using c1
      obtain ⟨x0, x1, x2, R0, R1, R2, e1⟩ := stream3 x
      obtain ⟨d, h, e2⟩ := treeA A n (deep - 1) x0 (by omega) (by omega)
      obtain ⟨d', h', e3⟩ := treeA A n (deep - 1) x1 (by omega) (by omega)
      by_cases c3 : (x2 % 5 == 0) = true
      · obtain ⟨u, hu, e4⟩ := pick (ds := [.int 9, .int 1000000]) (i := x2 / 5 % 2) (n := 2) rfl (Int.emod_nonneg _ (by decide)) (Int.emod_lt_of_pos _ (by decide))
        obtain ⟨m, m1, m2, rfl⟩ : ∃ m : Int, 1 ≤ m ∧ m ≤ 1000000 ∧ u = .int m := by
          simp only [List.mem_cons, List.not_mem_nil, or_false] at hu
          rcases hu with rfl | rfl
          · exact ⟨9, by decide, by decide, rfl⟩
          · exact ⟨1000000, by decide, by decide, rfl⟩
        have e5 : gMod (.int x1) (.int m) = some (.int (x1 % m)) := q_mod (by omega)
        have b0 := Int.emod_nonneg x1 (show m ≠ 0 by omega)
        have b1 := Int.emod_lt_of_pos x1 (show 0 < m by omega)
        refine ⟨_, A.rest n d (1 + x1 % m) h (by omega) (by omega), ?_⟩
        show runD 5 (b_tree (m_tree n)) [.int x, .lst (zs.map D.str), .int deep] = some _
        walk_at "u tree"
        walk_at "ev"
        simp only [c1, c2]
        walk_at "ev"
        simp only [e1]
        walk_at "ev"
        simp only [e2]
        walk_at "ev"
        simp only [c3]
        walk_at "ev"
        simp only [e4]
        walk_at "ev"
        simp only [e5]
        walk_at "ev"
      · have c3' : (x2 % 5 == 0) = false := by cases q : x2 % 5 == 0 with | false => rfl | true => exact absurd q c3
        obtain ⟨o, e4⟩ : ∃ o : Op, gIx (.str "+-*") (.int (x2 / 5 % 3)) = some (.str o.s) := by
          have g0 := Int.emod_nonneg (x2 / 5) (show (3 : Int) ≠ 0 by decide)
          have g1 := Int.emod_lt_of_pos (x2 / 5) (show (0 : Int) < 3 by decide)
          rcases (show x2 / 5 % 3 = 0 ∨ x2 / 5 % 3 = 1 ∨ x2 / 5 % 3 = 2 by omega) with g | g | g
          · rw [g]; exact ⟨.add, by rfl⟩
          · rw [g]; exact ⟨.sub, by rfl⟩
          · rw [g]; exact ⟨.mul, by rfl⟩
        refine ⟨_, A.op n o d d' h h', ?_⟩
        show runD 5 (b_tree (m_tree n)) [.int x, .lst (zs.map D.str), .int deep] = some _
        walk_at "u tree"
        walk_at "ev"
        simp only [c1, c2]
        walk_at "ev"
        simp only [e1]
        walk_at "ev"
        simp only [e2]
        walk_at "ev"
        simp only [c3']
        walk_at "ev"
        simp only [e4, e3]
        walk_at "ev"
theorem expressionA {P : Nat → D → Prop} {zs : List Str} (A : Alg P zs) (a b : Int) (r : List D) : ∃ d, P 6 d ∧ m_expression [.lst (.int a :: .int b :: r), .lst (zs.map D.str)] = some d := by
  obtain ⟨u, hu, e1⟩ := pick (ds := [.int 1, .int 2, .int 2, .int 2, .int 3, .int 3, .int 4, .int 6]) (i := a % 8) (n := 8) rfl (Int.emod_nonneg _ (by decide)) (Int.emod_lt_of_pos _ (by decide))
  obtain ⟨deep, d1, d2, rfl⟩ : ∃ m : Int, 1 ≤ m ∧ m ≤ 6 ∧ u = .int m := by
    simp only [List.mem_cons, List.not_mem_nil, or_false] at hu
    rcases hu with rfl | rfl | rfl | rfl | rfl | rfl | rfl | rfl <;> exact ⟨_, by decide, by decide, rfl⟩
  obtain ⟨d, h, e2⟩ := treeA A 6 deep b d1 d2
  refine ⟨d, h, ?_⟩
  walk_at "u expression"
  walk_at "ev"
  simp only [e1]
  walk_at "ev"
  simp only [e2]
  walk_at "ev"
/-- a number of the name's stretch -/
def inS (ks : List (Key × D)) (k : Key) (d : D) : Prop := ∃ a b i, lookD ks k = some (.tup [.int a, .int b]) ∧ S a b ∧ a ≤ i ∧ i ≤ b ∧ d = .int i
theorem held_loop (ks : List (Key × D)) (keys : List Key) (hk : Kd isS ks keys) (hl : ks.length ≤ 100) : ∀ (suf pre : List (Key × D)) (hs : List (Key × D)) (x : Int) (o3 : Option D), ks = pre ++ suf → R x → Kd (inS ks) hs (pre.map (·.1)) →
    ∃ (hs' : List (Key × D)) (x' : Int) (p3 : Option D), Kd (inS ks) hs' (ks.map (·.1)) ∧ forD (gPut 3) l_held_1 (suf.map fun p => kD p.1) [some (.dct ks), some (.int x), some (.dct hs), o3] = .nx [some (.dct ks), some (.int x'), some (.dct hs'), p3]
  | [], pre, hs, x, o3, he, hx, h => ⟨hs, x, o3, by
      have e : pre.map (·.1) = ks.map (·.1) := by rw [he, List.append_nil]
      rw [← e]
      exact h, rfl⟩
  | (k, d) :: suf, pre, hs, x, o3, he, hx, h => by
    have hm : (k, d) ∈ ks := by rw [he]; simp
    have e1 : lookD ks k = some d := lookD_mem hk.nd hm
    obtain ⟨a, b, hab, rfl⟩ := hk.b _ hm
    obtain ⟨y, hy⟩ : ∃ y, y = (x * x + 48271 * x + 11) % 2147483647 := ⟨_, rfl⟩
    have y0 : 0 ≤ y := by rw [hy]; exact Int.emod_nonneg _ (by decide)
    have y1 : y < 2147483647 := by rw [hy]; exact Int.emod_lt_of_pos _ (by decide)
    obtain ⟨i, i1, i2, e2⟩ := one_of hab y
    have h1 : Kd (inS ks) (storeD hs k (.int i)) ((pre ++ [(k, BW.D.tup [.int a, .int b])]).map (·.1)) := by
      rw [List.map_append]
      exact h.put k ⟨a, b, i, e1, hab, i1, i2, rfl⟩
    obtain ⟨hs', x', p3, g1, g2⟩ := held_loop ks keys hk hl suf (pre ++ [(k, BW.D.tup [.int a, .int b])]) _ y (some (kD k)) (by rw [he, List.append_assoc]; rfl) ⟨y0, y1⟩ h1
    refine ⟨hs', x', p3, g1, ?_⟩
    have l1 : hs.length < 16777216 := by
      have := h.len
      rw [List.length_map] at this
      have : pre.length ≤ ks.length := by rw [he, List.length_append]; omega
      omega
    have hxx : mulOk x = true := mulOk_of (by have := hx.1; omega) (by have := hx.2; omega)
    have f1 : gMulI (.int x) (.int x) = some (.int (x * x)) := q_mul (by rw [hxx]; rfl)
    have f2 : gMulI (.int 48271) (.int x) = some (.int (48271 * x)) := q_mul (by rw [hxx]; simp)
    have t : l_held_1 [some (.dct ks), some (.int x), some (.dct hs), some (kD k)] = .nx [some (.dct ks), some (.int y), some (.dct (storeD hs k (.int i))), some (kD k)] := by
      walk_at "ul held"
      walk_at "ev"
      simp only [f1, f2]
      walk_at "ev"
      simp only [← hy, e1]
      walk_at "ev"
      simp only [e2, q_dput_s l1]
      walk_at "ev"
    rw [List.map_cons, q_forD]
    show forR2 (gPut 3) l_held_1 _ (some [some (.dct ks), some (.int x), some (.dct hs), some (kD k)]) = _
    rw [q_for2, t, ← g2]
    rfl
theorem held {ks : List (Key × D)} {keys : List Key} (hk : Kd isS ks keys) (hl : ks.length ≤ 100) {x : Int} (hx : R x) : ∃ hs, Kd (inS ks) hs (ks.map (·.1)) ∧ m_held [.dct ks, .int x] = some (.dct hs) := by
  obtain ⟨hs, x', p3, h, e⟩ := held_loop ks keys hk hl ks [] [] x none rfl hx Kd.nil
  refine ⟨hs, h, ?_⟩
  walk_at "u held"
  walk_at "ev"
  simp only [e]
  walk_at "ev"
/-! what an expression comes to, and what it reaches -/
def cutO (lo hi : Int) : Option (Int × Int) := if hi < -1000000 ∨ 1000000 < lo then none else some (max lo (-1000000), min hi 1000000)
def oS : Option (Int × Int) → D
  | none => .non
  | some (a, b) => .tup [.int a, .int b]
theorem oS_cut (lo hi : Int) : oS (cutO lo hi) = cutS lo hi := by
  unfold cutO cutS
  split <;> rfl
def rO (o : Op) : Option (Int × Int) → Option (Int × Int) → Option (Int × Int)
  | some (a, b), some (c, d) => (match o with
    | .add => cutO (a + c) (b + d)
    | .sub => cutO (a - d) (b - c)
    | .mul => cutO (lo4 (a * c) (a * d) (b * c) (b * d)) (hi4 (a * c) (a * d) (b * c) (b * d)))
  | _, _ => none
def rR (m : Int) : Option (Int × Int) → Option (Int × Int)
  | some (a, b) => some (if a / m = b / m then (a % m, b % m) else (0, m - 1))
  | none => none
inductive Er (ks hs : List (Key × D)) : Nat → Option Int → Option (Int × Int) → D → Prop
  | int {n : Nat} {i : Int} : B i → Er ks hs (n + 1) (some i) (some (i, i)) (.int i)
  | name {n : Nat} {x : Str} {i a b : Int} : lookD ks (.inr x) = some (.tup [.int a, .int b]) → S a b → lookD hs (.inr x) = some (.int i) → a ≤ i → i ≤ b → Er ks hs (n + 1) (some i) (some (a, b)) (.str x)
  | rest {n : Nat} {w : Option Int} {r : Option (Int × Int)} {d : D} {m : Int} : Er ks hs n w r d → 1 ≤ m → m ≤ 1000000 → Er ks hs (n + 1) (rst m w) (rR m r) (.tup [.str "rest", d, .int m])
  | op {n : Nat} (o : Op) {w w' : Option Int} {r r' : Option (Int × Int)} {d d' : D} : Er ks hs n w r d → Er ks hs n w' r' d' → Er ks hs (n + 1) (cnt o w w') (rO o r r') (.tup [.str o.s, d, d'])
theorem Er.ex {ks hs : List (Key × D)} {n : Nat} {w : Option Int} {r : Option (Int × Int)} {d : D} (h : Er ks hs n w r d) : Ex hs n w d := by
  induction h with
  | int b => exact .int b
  | name _ s l h1 h2 => exact .name l (by unfold S at s; exact ⟨by omega, by omega⟩)
  | rest _ h1 h2 ih => exact .rest ih h1 h2
  | op o _ _ ih ih' => exact .op o ih ih'
theorem cutO_S {lo hi a b : Int} (h : lo ≤ hi) (e : cutO lo hi = some (a, b)) : S a b := by
  unfold cutO at e
  split at e
  · cases e
  · cases e
    exact ⟨by omega, by omega, by omega⟩
theorem rR_S {m a b c d : Int} (h1 : 1 ≤ m) (h2 : m ≤ 1000000) (h : S a b) (e : rR m (some (a, b)) = some (c, d)) : S c d := by
  have e' : (if a / m = b / m then (a % m, b % m) else (0, m - 1)) = (c, d) := Option.some.inj e
  have p := Int.emod_nonneg a (show m ≠ 0 by omega)
  have q := Int.emod_lt_of_pos b (show 0 < m by omega)
  split at e'
  · rename_i g
    cases e'
    have := (rest_in (show 0 < m by omega) (Int.le_refl a) h.2.1 g).2
    exact ⟨by omega, this, by omega⟩
  · cases e'
    exact ⟨by omega, by omega, by omega⟩
theorem Er.S {ks hs : List (Key × D)} {n : Nat} {w : Option Int} {r : Option (Int × Int)} {d : D} (h : Er ks hs n w r d) : ∀ a b, r = some (a, b) → S a b := by
  induction h with
  | int b => intro a c e; cases e; exact ⟨b.1, Int.le_refl _, b.2⟩
  | name _ s _ _ _ => intro a c e; cases e; exact s
  | @rest n w r d m _ h1 h2 ih =>
    intro a b e
    cases r with
    | none => cases e
    | some p =>
      obtain ⟨c, d⟩ := p
      exact rR_S h1 h2 (ih c d rfl) e
  | @op n o w w' r r' d d' _ _ ih ih' =>
    intro a b e
    cases r with
    | none => cases e
    | some p =>
      cases r' with
      | none => cases e
      | some q =>
        obtain ⟨c, d⟩ := p
        obtain ⟨c', d'⟩ := q
        have s := ih c d rfl
        have s' := ih' c' d' rfl
        unfold K09.S at s s'
        cases o with
        | add => exact cutO_S (by omega) e
        | sub => exact cutO_S (by omega) e
        | mul => exact cutO_S (lo4_le _ _ _ _) e
theorem cutO_in {lo hi i : Int} (h1 : lo ≤ i) (h2 : i ≤ hi) (h : B i) : ∃ a b, cutO lo hi = some (a, b) ∧ a ≤ i ∧ i ≤ b := by
  unfold B at h
  unfold cutO
  rw [if_neg (by omega)]
  exact ⟨_, _, rfl, by omega, by omega⟩
/-- where the numbers come to a number, it is reached -/
theorem Er.sound {ks hs : List (Key × D)} {n : Nat} {w : Option Int} {r : Option (Int × Int)} {d : D} (h : Er ks hs n w r d) : ∀ i, w = some i → ∃ a b, r = some (a, b) ∧ a ≤ i ∧ i ≤ b := by
  induction h with
  | @int n i b => intro j e; cases e; exact ⟨i, i, rfl, Int.le_refl _, Int.le_refl _⟩
  | name _ _ _ h1 h2 => intro j e; cases e; exact ⟨_, _, rfl, h1, h2⟩
  | @rest n w r d m hh h1 h2 ih =>
    intro j e
    cases w with
    | none => cases e
    | some x =>
      obtain ⟨a, b, rfl, i1, i2⟩ := ih x rfl
      cases e
      by_cases g : a / m = b / m
      · have := rest_in (show 0 < m by omega) i1 i2 g
        exact ⟨_, _, by show some (if a / m = b / m then (a % m, b % m) else (0, m - 1)) = some _; rw [if_pos g], this.1, this.2⟩
      · have p := Int.emod_nonneg x (show m ≠ 0 by omega)
        have q := Int.emod_lt_of_pos x (show 0 < m by omega)
        exact ⟨0, m - 1, by show some (if a / m = b / m then (a % m, b % m) else (0, m - 1)) = some _; rw [if_neg g], p, by omega⟩
  | @op n o w w' r r' d d' hh hh' ih ih' =>
    intro j e
    cases w with
    | none => cases e
    | some x =>
      cases w' with
      | none => cases e
      | some y =>
        obtain ⟨a, b, rfl, i1, i2⟩ := ih x rfl
        obtain ⟨c, d, rfl, j1, j2⟩ := ih' y rfl
        have hB : B j := lim_B e
        have ej : j = o.f x y := by
          have e' : lim (o.f x y) = some j := e
          unfold lim at e'
          split at e' <;> cases e'
          rfl
        subst ej
        cases o with
        | add => exact cutO_in (show a + c ≤ x + y by omega) (show x + y ≤ b + d by omega) hB
        | sub => exact cutO_in (show a - d ≤ x - y by omega) (show x - y ≤ b - c by omega) hB
        | mul => exact cutO_in (between i1 i2 j1 j2).1 (between i1 i2 j1 j2).2 hB
theorem Er.pos {ks hs : List (Key × D)} {n : Nat} {w : Option Int} {r : Option (Int × Int)} {d : D} (h : Er ks hs n w r d) : ∃ k, n = k + 1 := by
  cases h <;> exact ⟨_, rfl⟩
theorem er_alg {ks hs : List (Key × D)} {zs : List Str} (hk : Kd isS ks (zs.map Sum.inr)) (hh : Kd (inS ks) hs (ks.map (·.1))) (hz : 0 < zs.length) : Alg (fun n d => ∃ w r, Er ks hs n w r d) zs where
  ne := hz
  int n i b := ⟨_, _, .int b⟩
  name n z m := by
    have h1 : (Sum.inr z : Key) ∈ ks.map (·.1) := (hk.has _).mpr (List.mem_map.mpr ⟨z, m, rfl⟩)
    obtain ⟨d, h2, a, b, i, h3, s, i1, i2, rfl⟩ := hh.look h1
    exact ⟨_, _, .name h3 s h2 i1 i2⟩
  rest n d m := fun ⟨w, r, h⟩ h1 h2 => ⟨_, _, .rest h h1 h2⟩
  op n o d d' := fun ⟨w, r, h⟩ ⟨w', r', h'⟩ => ⟨_, _, .op o h h'⟩
theorem sort4 (p q r s : Int) : ∃ y z, sortI [p, q, r, s] = [lo4 p r s q, y, z, hi4 p r s q] := by
  have hp := sortI_perm [p, q, r, s]
  have hs := sortI_sorted [p, q, r, s]
  obtain ⟨l, hl⟩ : ∃ l, l = sortI [p, q, r, s] := ⟨_, rfl⟩
  rw [← hl] at hp hs ⊢
  obtain ⟨w, x, y, z, rfl⟩ : ∃ w x y z, l = [w, x, y, z] := by
    have := hp.length_eq
    match l, this with
    | [w, x, y, z], _ => exact ⟨w, x, y, z, rfl⟩
  refine ⟨x, y, ?_⟩
  simp only [List.pairwise_cons, List.mem_cons, List.not_mem_nil, or_false] at hs
  obtain ⟨s1, s2, s3, _⟩ := hs
  have b1 := s1 x (.inl rfl)
  have b2 := s1 y (.inr (.inl rfl))
  have b3 := s1 z (.inr (.inr rfl))
  have b4 := s2 z (.inr rfl)
  have b5 := s3 z rfl
  have mem : ∀ t, t ∈ [w, x, y, z] ↔ t ∈ [p, q, r, s] := fun t => hp.mem_iff
  simp only [List.mem_cons, List.not_mem_nil, or_false] at mem
  have mw := (mem w).mp (.inl rfl)
  have mz := (mem z).mp (.inr (.inr (.inr rfl)))
  have low : ∀ t, t = p ∨ t = q ∨ t = r ∨ t = s → w ≤ t ∧ t ≤ z := fun t ht => by
    rcases (mem t).mpr ht with rfl | rfl | rfl | rfl <;> omega
  have lp := low p (.inl rfl)
  have lq := low q (.inr (.inl rfl))
  have lr := low r (.inr (.inr (.inl rfl)))
  have ls := low s (.inr (.inr (.inr rfl)))
  have e1 : w = lo4 p r s q := by
    unfold lo4
    have h1 := minL_mem [r, s, q] p
    have h2 := (minL_le [r, s, q] p).1
    have h3 := (minL_le [r, s, q] p).2 r (by simp)
    have h4 := (minL_le [r, s, q] p).2 s (by simp)
    have h5 := (minL_le [r, s, q] p).2 q (by simp)
    simp only [List.mem_cons, List.not_mem_nil, or_false] at h1
    omega
  have e2 : z = hi4 p r s q := by
    unfold hi4
    have h1 := maxL_mem [r, s, q] p
    have h2 := (maxL_ge [r, s, q] p).1
    have h3 := (maxL_ge [r, s, q] p).2 r (by simp)
    have h4 := (maxL_ge [r, s, q] p).2 s (by simp)
    have h5 := (maxL_ge [r, s, q] p).2 q (by simp)
    simp only [List.mem_cons, List.not_mem_nil, or_false] at h1
    omega
  rw [e1, e2]
theorem reach_int {ks : List (Key × D)} {n : Nat} {m : Int} : m_reach (n + 1) [.int m, .dct ks] = some (.tup [.int m, .int m]) := by
  show runD 8 (b_reach (m_reach n)) [.int m, .dct ks] = some (.tup [.int m, .int m])
  walk_at "u reach"
  walk_at "ev"
theorem reach {ks hs : List (Key × D)} {n : Nat} {w : Option Int} {r : Option (Int × Int)} {d : D} (h : Er ks hs n w r d) : m_reach n [d, .dct ks] = some (oS r) := by
  induction h with
  | @int n i b => exact reach_int
  | @name n x i a b e s l h1 h2 =>
    show runD 8 (b_reach (m_reach n)) [.str x, .dct ks] = some (.tup [.int a, .int b])
    walk_at "u reach"
    walk_at "ev"
    simp only [e]
    walk_at "ev"
  | @rest n w r d m h h1 h2 ih =>
    show runD 8 (b_reach (m_reach n)) [.tup [.str "rest", d, .int m], .dct ks] = some (oS (rR m r))
    obtain ⟨k, rfl⟩ := h.pos
    have e := reach_int (ks := ks) (n := k) (m := m)
    cases r with
    | none =>
      have ih' : m_reach (k + 1) [d, .dct ks] = some .non := ih
      show _ = some D.non
      walk_at "u reach"
      walk_at "ev"
      simp only [ih']
      walk_at "ev"
      simp only [e]
      walk_at "ev"
    | some p =>
      obtain ⟨a, b⟩ := p
      have s := h.S a b rfl
      have ih' : m_reach (k + 1) [d, .dct ks] = some (.tup [.int a, .int b]) := ih
      have q1 : gDiv (.int a) (.int m) = some (.int (a / m)) := q_div (by omega) (by omega)
      have q2 : gDiv (.int b) (.int m) = some (.int (b / m)) := q_div (by omega) (by omega)
      have q3 : gMulI (.int (a / m)) (.int m) = some (.int (a / m * m)) := q_mul (by rw [mulOk_of (z := m) (by omega) (by omega)]; simp)
      have le : a / m ≤ b / m := Int.ediv_le_ediv (by omega) s.2.1
      have f1 := Int.emod_add_mul_ediv a m
      have f2 := Int.emod_add_mul_ediv b m
      rw [Int.mul_comm m] at f1 f2
      have fin : ∀ c : Bool, decide (a / m < b / m) = c → runD 8 (b_reach (m_reach (k + 1))) [.tup [.str "rest", d, .int m], .dct ks] = some (if c then .tup [.int 0, .int (m - 1)] else .tup [.int (a - a / m * m), .int (b - a / m * m)]) := fun c hc => by
        walk_at "u reach"
        walk_at "ev"
        simp only [ih']
        walk_at "ev"
        simp only [e]
        walk_at "ev"
        simp only [q1, q2]
        walk_at "ev"
        simp only [hc]
        cases c
        · walk_at "ev"
          simp only [q1]
          walk_at "ev"
          simp only [q3]
          walk_at "ev"
        · walk_at "ev"
      rw [fin _ rfl]
      show _ = some (oS (some (if a / m = b / m then (a % m, b % m) else (0, m - 1))))
      by_cases g : a / m = b / m
      · have c : decide (a / m < b / m) = false := decide_eq_false (by omega)
        rw [c, if_pos g]
        have g1 : a - a / m * m = a % m := by omega
        have g2 : b - a / m * m = b % m := by rw [g]; omega
        rw [g1, g2]
        rfl
      · have c : decide (a / m < b / m) = true := decide_eq_true (by omega)
        rw [c, if_neg g]
        rfl
  | @op n o w w' r r' d d' h h' ih ih' =>
    show runD 8 (b_reach (m_reach n)) [.tup [.str o.s, d, d'], .dct ks] = some (oS (rO o r r'))
    have sr : eqvD (.str o.s) (.str "rest") = some false := by cases o <;> decide +kernel
    cases r with
    | none =>
      have i1 : m_reach n [d, .dct ks] = some .non := ih
      show _ = some D.non
      walk_at "u reach"
      walk_at "ev"
      simp only [i1]
      walk_at "ev"
      simp only [ih']
      walk_at "ev"
    | some p =>
      obtain ⟨a, b⟩ := p
      have i1 : m_reach n [d, .dct ks] = some (.tup [.int a, .int b]) := ih
      cases r' with
      | none =>
        have i2 : m_reach n [d', .dct ks] = some .non := ih'
        show _ = some D.non
        walk_at "u reach"
        walk_at "ev"
        simp only [i1]
        walk_at "ev"
        simp only [i2]
        walk_at "ev"
      | some p' =>
        obtain ⟨x, y⟩ := p'
        have i2 : m_reach n [d', .dct ks] = some (.tup [.int x, .int y]) := ih'
        have s := h.S a b rfl
        have s' := h'.S x y rfl
        have ha := bnd s (Int.le_refl a) s.2.1
        have hb := bnd s s.2.1 (Int.le_refl b)
        walk_at "u reach"
        walk_at "ev"
        simp only [i1]
        walk_at "ev"
        simp only [i2]
        walk_at "ev"
        simp only [sr]
        walk_at "ev"
        cases o with
        | add =>
          show _ = some (oS (cutO (a + x) (b + y)))
          rw [oS_cut]
          have := cut (lo := a + x) (hi := b + y)
          simp only [Op.s]
          walk_at "ev"
          simp only [this]
          walk_at "ev"
        | sub =>
          show _ = some (oS (cutO (a - y) (b - x)))
          rw [oS_cut]
          have := cut (lo := a - y) (hi := b - x)
          simp only [Op.s]
          walk_at "ev"
          simp only [this]
          walk_at "ev"
        | mul =>
          show _ = some (oS (cutO (lo4 (a * x) (a * y) (b * x) (b * y)) (hi4 (a * x) (a * y) (b * x) (b * y))))
          rw [oS_cut]
          obtain ⟨u, v, e4⟩ := sort4 (a * x) (b * y) (a * y) (b * x)
          have e5 := cut (lo := lo4 (a * x) (a * y) (b * x) (b * y)) (hi := hi4 (a * x) (a * y) (b * x) (b * y))
          have m1 : gMulI (.int a) (.int x) = some (.int (a * x)) := q_mul (mulOkB ha)
          have m2 : gMulI (.int b) (.int y) = some (.int (b * y)) := q_mul (mulOkB hb)
          have m3 : gMulI (.int a) (.int y) = some (.int (a * y)) := q_mul (mulOkB ha)
          have m4 : gMulI (.int b) (.int x) = some (.int (b * x)) := q_mul (mulOkB hb)
          have hl : ([.tup [.int a, .int x], .tup [.int b, .int y], .tup [.int a, .int y], .tup [.int b, .int x]] : List BW.D).length ≤ 16777216 := (show 4 ≤ 16777216 by decide)
          simp only [Op.s]
          walk_at "ev"
          simp only [q_comp_s hl]
          walk_at "ev"
          simp only [m1, m2, m3, m4]
          walk_at "ev"
          simp only [intsD4, Option.map_some, e4, List.map_cons, List.map_nil]
          walk_at "ev"
          simp only [e5]
          walk_at "ev"
theorem p_reach {ks hs : List (Key × D)} {n : Nat} {w : Option Int} {r : Option (Int × Int)} {d : D} (h : Er ks hs n w r d) : m_p_reach n [d, .dct ks] = some (oS r) := by
  induction h with
  | @int n i b =>
    show runD 7 (b_p_reach (m_p_reach n)) [.int i, .dct ks] = some (.tup [.int i, .int i])
    walk_at "u p_reach"
    walk_at "ev"
  | @name n x i a b e s l h1 h2 =>
    show runD 7 (b_p_reach (m_p_reach n)) [.str x, .dct ks] = some (.tup [.int a, .int b])
    walk_at "u p_reach"
    walk_at "ev"
    simp only [e]
    walk_at "ev"
  | @rest n w r d m h h1 h2 ih =>
    show runD 7 (b_p_reach (m_p_reach n)) [.tup [.str "rest", d, .int m], .dct ks] = some (oS (rR m r))
    cases r with
    | none =>
      have ih' : m_p_reach n [d, .dct ks] = some .non := ih
      show _ = some D.non
      walk_at "u p_reach"
      walk_at "ev"
      simp only [ih']
      walk_at "ev"
    | some p =>
      obtain ⟨a, b⟩ := p
      have ih' : m_p_reach n [d, .dct ks] = some (.tup [.int a, .int b]) := ih
      have e := rest_eq (h.S a b rfl) (show 0 < m by omega) (by omega)
      have e2 : (if a / m = b / m then BW.D.tup [.int (a % m), .int (b % m)] else .tup [.int 0, .int (m - 1)]) = oS (some (if a / m = b / m then (a % m, b % m) else (0, m - 1))) := by
        by_cases g : a / m = b / m
        · rw [if_pos g, if_pos g]; rfl
        · rw [if_neg g, if_neg g]; rfl
      show _ = some (oS (some (if a / m = b / m then (a % m, b % m) else (0, m - 1))))
      rw [← e2, ← e]
      clear e e2
      walk_at "u p_reach"
      walk_at "ev"
      simp only [ih']
      walk_at "ev"
      cases m_p_rest [.tup [.int a, .int b], .int m] <;> rfl
  | @op n o w w' r r' d d' h h' ih ih' =>
    show runD 7 (b_p_reach (m_p_reach n)) [.tup [.str o.s, d, d'], .dct ks] = some (oS (rO o r r'))
    have sr : eqvD (.str o.s) (.str "rest") = some false := by cases o <;> decide +kernel
    cases r with
    | none =>
      have i1 : m_p_reach n [d, .dct ks] = some .non := ih
      show _ = some D.non
      walk_at "u p_reach"
      walk_at "ev"
      simp only [i1]
      walk_at "ev"
    | some p =>
      obtain ⟨a, b⟩ := p
      have i1 : m_p_reach n [d, .dct ks] = some (.tup [.int a, .int b]) := ih
      cases r' with
      | none =>
        have i2 : m_p_reach n [d', .dct ks] = some .non := ih'
        show _ = some D.non
        walk_at "u p_reach"
        walk_at "ev"
        simp only [i1]
        walk_at "ev"
        simp only [sr]
        walk_at "ev"
        simp only [i2]
        walk_at "ev"
      | some p' =>
        obtain ⟨x, y⟩ := p'
        have i2 : m_p_reach n [d', .dct ks] = some (.tup [.int x, .int y]) := ih'
        have s := h.S a b rfl
        have s' := h'.S x y rfl
        walk_at "u p_reach"
        walk_at "ev"
        simp only [i1]
        walk_at "ev"
        simp only [sr]
        walk_at "ev"
        simp only [i2]
        walk_at "ev"
        cases o with
        | add =>
          show _ = some (oS (cutO (a + x) (b + y)))
          rw [oS_cut]
          have := plus_eq s s'
          simp only [Op.s]
          walk_at "ev"
          simp only [this]
          walk_at "ev"
        | sub =>
          show _ = some (oS (cutO (a - y) (b - x)))
          rw [oS_cut]
          have := minus_eq s s'
          simp only [Op.s]
          walk_at "ev"
          simp only [this]
          walk_at "ev"
        | mul =>
          show _ = some (oS (cutO (lo4 (a * x) (a * y) (b * x) (b * y)) (hi4 (a * x) (a * y) (b * x) (b * y))))
          rw [oS_cut]
          have := times_eq s s'
          simp only [Op.s]
          walk_at "ev"
          simp only [this]
          walk_at "ev"
theorem cut_from (pre l : List D) (n : Nat) (h : pre.length = n) : cutD (pre ++ l) (some (n : Int)) none = l := by
  unfold cutD
  rw [HT.sIx_none]
  have e : HT.sIx (pre ++ l).length 0 (some (n : Int)) = min n (pre ++ l).length := HT.sIx_nat _ _ n
  rw [e]
  have e2 : min n (pre ++ l).length = n := by rw [List.length_append]; omega
  rw [e2]
  subst h
  rw [List.drop_left]
  rw [List.length_append, Nat.add_sub_cancel_left]
  exact List.take_length
theorem cut_from2 (a b : D) (l : List D) : cutD (a :: b :: l) (some 2) none = l := cut_from [a, b] l 2 rfl
theorem cut_from6 (a b c d e f : D) (l : List D) : cutD (a :: b :: c :: d :: e :: f :: l) (some 6) none = l := cut_from [a, b, c, d, e, f] l 6 rfl
theorem atI5 {a b c d e f : D} {l : List D} : atI (a :: b :: c :: d :: e :: f :: l) 5 = some f := atI_get' (by omega) rfl
/-! conditions -/
inductive CO where
  | lt | le | eq | ne
def CO.s : CO → Str
  | .lt => "<"
  | .le => "<="
  | .eq => "="
  | .ne => "!="
def CO.f : CO → Int → Int → Bool
  | .lt, a, b => decide (a < b)
  | .le, a, b => decide (a ≤ b)
  | .eq, a, b => a == b
  | .ne, a, b => !(a == b)
def hd (o : CO) : Option Int → Option Int → Option Bool
  | some a, some b => some (o.f a b)
  | _, _ => none
def oB : Option Bool → D
  | none => .non
  | some b => .bl b
theorem disp4 (o : CO) (d1 d2 d3 d4 : D) : lookD ([((Sum.inr "<" : Key), d1), (Sum.inr "<=", d2), (Sum.inr "=", d3), (Sum.inr "!=", d4)].foldl (fun acc p => storeD acc p.1 p.2) []) (.inr o.s) = some (match o with | .lt => d1 | .le => d2 | .eq => d3 | .ne => d4) := by
  cases o <;> rfl
theorem holds (o : CO) {es : List (Key × D)} {w w' : Option Int} {x y : D} (h : Ex es 6 w x) (h' : Ex es 6 w' y) : m_holds [.tup [.str o.s, x, y], .dct es] = some (oB (hd o w w')) := by
  have e1 := worth h
  have e2 := worth h'
  walk_at "u holds"
  walk_at "ev"
  simp only [e1]
  walk_at "ev"
  simp only [e2]
  cases w with
  | none =>
    simp only [o2]
    walk_at "ev"
    rfl
  | some a =>
    cases w' with
    | none =>
      simp only [o2]
      walk_at "ev"
      rfl
    | some b =>
      simp only [o2]
      walk_at "ev"
      simp only [disp4]
      cases o <;> walk_at "ev" <;> rfl
/-! what is known where a condition holds -/
def metO (p q : Int × Int) : Option (Int × Int) := if min p.2 q.2 < max p.1 q.1 then none else some (max p.1 q.1, min p.2 q.2)
theorem p_met2 {a b c d : Int} : m_p_met [.tup [.int a, .int b], .tup [.int c, .int d]] = some (oS (metO (a, b) (c, d))) := by
  walk_at "u p_met"
  walk_at "ev"
  simp only [min_eq, max_eq]
  unfold metO
  by_cases h : min b d < max a c
  · simp only [h, decide_true]
    walk_at "ev"
    rfl
  · simp only [h, decide_false]
    walk_at "ev"
    rfl
theorem met3 {a b c d : Int} : m_met [.tup [.int a, .int b], .int c, .int d] = some (oS (metO (a, b) (c, d))) := by
  walk_at "u met"
  walk_at "ev"
  simp only [min_eq, max_eq]
  unfold metO
  by_cases h : min b d < max a c
  · simp only [h, decide_true]
    walk_at "ev"
    rfl
  · simp only [h, decide_false]
    walk_at "ev"
    simp only [min_eq, max_eq]
    rfl
theorem nin2 {a b c : Int} : gNotIn (.int c) (.tup [.int a, .int b]) = some (.bl (!(a == c || b == c))) := by
  have e : inV (V.int c) [V.int a, V.int b] = (a == c || b == c) := by
    show ((a == c) || ((b == c) || false)) = _
    rw [Bool.or_false]
  have e1 : gNotIn (.int c) (.tup [.int a, .int b]) = ((if (flatV (V.int c) && [V.int a, V.int b].all flatV) = true then some (inV (V.int c) [V.int a, V.int b]) else none).map fun b => BW.D.bl (!b)) := rfl
  rw [e1, e]
  rfl
def sideO (o : CO) (a b c d : Int) (first : Bool) : Option (Int × Int) := match o with
  | .eq => metO (a, b) (c, d)
  | .ne => if c ≠ d ∨ (c ≠ a ∧ c ≠ b) then some (a, b) else metO (a, b) (a + (if a = c then 1 else 0), b - (if a ≠ c ∨ b = a then 1 else 0))
  | .lt => if first then metO (a, b) (-1000000, d - 1) else metO (a, b) (c + 1, 1000000)
  | .le => if first then metO (a, b) (-1000000, d - 0) else metO (a, b) (c + 0, 1000000)
theorem ne_out {a b c d : Int} {f : Bool} (h : c ≠ d ∨ (c ≠ a ∧ c ≠ b)) : sideO .ne a b c d f = some (a, b) := if_pos h
theorem ne_both {a : Int} {f : Bool} : sideO .ne a a a a f = metO (a, a) (a + 1, a - 1) := by
  show (if a ≠ a ∨ (a ≠ a ∧ a ≠ a) then some (a, a) else metO (a, a) (a + (if a = a then 1 else 0), a - (if a ≠ a ∨ a = a then 1 else 0))) = _
  rw [if_neg (by omega), if_pos rfl, if_pos (.inr rfl)]
theorem ne_low {a b : Int} {f : Bool} (h : ¬ b = a) : sideO .ne a b a a f = metO (a, b) (a + 1, b - 0) := by
  show (if a ≠ a ∨ (a ≠ a ∧ a ≠ b) then some (a, b) else metO (a, b) (a + (if a = a then 1 else 0), b - (if a ≠ a ∨ b = a then 1 else 0))) = _
  rw [if_neg (by omega), if_pos rfl, if_neg (by omega)]
theorem ne_high {a b : Int} {f : Bool} (h : ¬ a = b) : sideO .ne a b b b f = metO (a, b) (a + 0, b - 1) := by
  show (if b ≠ b ∨ (b ≠ a ∧ b ≠ b) then some (a, b) else metO (a, b) (a + (if a = b then 1 else 0), b - (if a ≠ b ∨ b = a then 1 else 0))) = _
  rw [if_neg (by omega), if_neg h, if_pos (.inl h)]
theorem side (o : CO) {a b c d : Int} (f : Bool) : m_side [.str o.s, .tup [.int a, .int b], .tup [.int c, .int d], .bl f] = some (oS (sideO o a b c d f)) := by
  cases o with
  | lt => 
    simp only [CO.s]
    walk_at "u side"
    walk_at "ev"
    cases f <;> walk_at "ev" <;> simp only [met3] <;> walk_at "ev" <;> rfl
  | le => 
    simp only [CO.s]
    walk_at "u side"
    walk_at "ev"
    cases f <;> walk_at "ev" <;> simp only [met3] <;> walk_at "ev" <;> rfl
  | eq => 
    simp only [CO.s]
    walk_at "u side"
    walk_at "ev"
    simp only [met3]
    walk_at "ev"
    rfl
  | ne => 
    simp only [CO.s]
    walk_at "u side"
    walk_at "ev"
    simp only [nin2]
    by_cases h1 : c = d
    · subst h1
      walk_at "ev"
      by_cases h2 : a = c
      · subst h2
        walk_at "ev"
        by_cases h3 : b = a
        · subst h3
          walk_at "ev"
          simp only [met3, ne_both]
          walk_at "ev"
        · simp only [beq_f h3]
          walk_at "ev"
          simp only [met3, ne_low h3]
          walk_at "ev"
      · simp only [beq_f h2]
        by_cases h3 : b = c
        · subst h3
          walk_at "ev"
          simp only [beq_f h2]
          walk_at "ev"
          simp only [met3, ne_high h2]
          walk_at "ev"
        · simp only [beq_f h3]
          walk_at "ev"
          rw [ne_out (by omega)]
          rfl
    · simp only [beq_f h1]
      walk_at "ev"
      rw [ne_out (by omega)]
      rfl
def canO (o : CO) (a b c d : Int) : Bool := match o with
  | .lt => decide (a < d)
  | .le => decide (a ≤ d)
  | .eq => (metO (a, b) (c, d)).isSome
  | .ne => !(a == b) || !(a == c && b == d)
theorem can (o : CO) {a b c d : Int} : m_p_can_hold [.str o.s, .tup [.int a, .int b], .tup [.int c, .int d]] = some (.bl (canO o a b c d)) := by
  cases o with
  | lt => simp only [CO.s]; walk_at "u p_can_hold"; walk_at "ev"; rfl
  | le => simp only [CO.s]; walk_at "u p_can_hold"; walk_at "ev"; rfl
  | eq =>
    simp only [CO.s]
    walk_at "u p_can_hold"
    walk_at "ev"
    simp only [p_met2]
    unfold canO
    cases metO (a, b) (c, d) with
    | none => rfl
    | some p => rfl
  | ne =>
    simp only [CO.s]
    walk_at "u p_can_hold"
    walk_at "ev"
    unfold canO
    cases a == b <;> walk_at "ev"
def withO (a b c d : Int) : Int × Int := if c = a ∧ d = a then (a + 1, b) else if c = b ∧ d = b then (a, b - 1) else (a, b)
theorem withoutE {a b c d : Int} : m_p_without [.tup [.int a, .int b], .tup [.int c, .int d]] = some (.tup [.int (withO a b c d).1, .int (withO a b c d).2]) := by
  walk_at "u p_without"
  walk_at "ev"
  unfold withO
  by_cases h : c = a ∧ d = a
  · obtain ⟨rfl, rfl⟩ := h
    rw [if_pos ⟨rfl, rfl⟩]
    walk_at "ev"
  · have e : (c == a && d == a) = false := by
      rw [Bool.and_eq_false_iff]
      by_cases z : c = a
      · exact .inr (beq_f fun y => h ⟨z, y⟩)
      · exact .inl (beq_f z)
    rw [if_neg h]
    simp only [e]
    walk_at "ev"
    by_cases h2 : c = b ∧ d = b
    · obtain ⟨rfl, rfl⟩ := h2
      rw [if_pos ⟨rfl, rfl⟩]
      walk_at "ev"
    · have e : (c == b && d == b) = false := by
        rw [Bool.and_eq_false_iff]
        by_cases z : c = b
        · exact .inr (beq_f fun y => h2 ⟨z, y⟩)
        · exact .inl (beq_f z)
      rw [if_neg h2]
      simp only [e]
      walk_at "ev"
def narO (o : CO) (a b c d : Int) : (Int × Int) × (Int × Int) := match o with
  | .lt => ((a, d - 1), (a + 1, d))
  | .le => ((a, d), (a, d))
  | .eq => ((c, d), (a, b))
  | .ne => (withO a b c d, withO c d a b)
def pD (p : Int × Int) : D := .tup [.int p.1, .int p.2]
theorem nar (o : CO) {a b c d : Int} : m_p_narrowed [.str o.s, .tup [.int a, .int b], .tup [.int c, .int d]] = some (.tup [pD (narO o a b c d).1, pD (narO o a b c d).2]) := by
  cases o with
  | lt => simp only [CO.s]; walk_at "u p_narrowed"; walk_at "ev"; rfl
  | le => simp only [CO.s]; walk_at "u p_narrowed"; walk_at "ev"; rfl
  | eq => simp only [CO.s]; walk_at "u p_narrowed"; walk_at "ev"; rfl
  | ne =>
    simp only [CO.s]
    walk_at "u p_narrowed"
    walk_at "ev"
    simp only [withoutE]
    walk_at "ev"
    rfl
/-- where it can hold, both sides have something left; else one has nothing -/
theorem can_iff (o : CO) {a b c d : Int} (h : S a b) (h' : S c d) : canO o a b c d = true ↔ (sideO o a b c d true).isSome = true ∧ (sideO o c d a b false).isSome = true := by
  unfold S at h h'
  have ms : ∀ p q : Int × Int, (metO p q).isSome = true ↔ max p.1 q.1 ≤ min p.2 q.2 := fun p q => by
    unfold metO
    split
    · rename_i z; constructor
      · intro w; cases w
      · intro w; omega
    · rename_i z; constructor
      · intro w; omega
      · intro w; rfl
  cases o with
  | lt => simp only [canO, sideO, if_true, Bool.false_eq_true, if_false, ms, decide_eq_true_iff]; omega
  | le => simp only [canO, sideO, if_true, Bool.false_eq_true, if_false, ms, decide_eq_true_iff]; omega
  | eq => simp only [canO, sideO, ms]; omega
  | ne =>
    have e : canO .ne a b c d = true ↔ (a ≠ b ∨ a ≠ c ∨ b ≠ d) := by
      unfold canO
      simp only [Bool.or_eq_true_iff, Bool.not_eq_true', Bool.and_eq_false_iff, beq_eq_false_iff_ne, ne_eq]
    have s : ∀ (a b c d : Int) (f : Bool), a ≤ b → c ≤ d → ((sideO .ne a b c d f).isSome = true ↔ (a ≠ b ∨ a ≠ c ∨ b ≠ d)) := fun a b c d f h h' => by
      by_cases z : c ≠ d ∨ (c ≠ a ∧ c ≠ b)
      · rw [ne_out z]
        simp only [Option.isSome_some, true_iff]
        omega
      · show (if c ≠ d ∨ (c ≠ a ∧ c ≠ b) then some (a, b) else metO (a, b) (a + (if a = c then 1 else 0), b - (if a ≠ c ∨ b = a then 1 else 0))).isSome = true ↔ _
        rw [if_neg z, ms]
        show max a (a + (if a = c then 1 else 0)) ≤ min b (b - (if a ≠ c ∨ b = a then 1 else 0)) ↔ _
        split <;> split <;> omega
    rw [e, s a b c d true h.2.1 h'.2.1, s c d a b false h'.2.1 h.2.1]
    omega
/-- what is met with, in either way of telling it -/
theorem metO_of {f g : Int} {p q : Int × Int} (h1 : max f p.1 = max f q.1 ∨ (min g p.2 < max f p.1 ∧ min g q.2 < max f q.1)) (h2 : min g p.2 = min g q.2 ∨ (min g p.2 < max f p.1 ∧ min g q.2 < max f q.1)) : metO (f, g) p = metO (f, g) q := by
  unfold metO
  simp only
  by_cases z : min g p.2 < max f p.1 ∧ min g q.2 < max f q.1
  · rw [if_pos z.1, if_pos z.2]
  · have e1 := h1.resolve_right z
    have e2 := h2.resolve_right z
    rw [e1, e2]
theorem metO_some {p q e : Int × Int} (h : metO p q = some e) : max p.1 q.1 ≤ min p.2 q.2 ∧ e = (max p.1 q.1, min p.2 q.2) := by
  unfold metO at h
  split at h
  · cases h
  · cases h; exact ⟨by omega, rfl⟩
theorem with_left {a b c d f g : Int} {fl : Bool} (h : a ≤ b) (h' : c ≤ d) {e : Int × Int} (he : sideO .ne a b c d fl = some e) (h1 : a ≤ f) (h2 : g ≤ b) : metO (f, g) (withO a b c d) = metO (f, g) e := by
  unfold withO
  by_cases z : c ≠ d ∨ (c ≠ a ∧ c ≠ b)
  · rw [ne_out z] at he
    cases he
    rw [if_neg (by omega), if_neg (by omega)]
  · obtain ⟨e1, e2⟩ := metO_some (show metO (a, b) (a + (if a = c then 1 else 0), b - (if a ≠ c ∨ b = a then 1 else 0)) = some e by rw [← he]; exact (if_neg z).symm)
    subst e2
    simp only at e1
    by_cases y : c = a
    · subst y
      rw [if_pos (by omega), if_pos rfl] at *
      by_cases w : b = c
      · subst w
        rw [if_pos (.inr rfl)] at *
        omega
      · rw [if_neg (by omega)] at *
        exact metO_of (by simp only; omega) (by simp only; omega)
    · rw [if_neg (by omega), if_pos (by omega), if_neg (by omega)] at *
      rw [if_pos (.inl (by omega))] at *
      exact metO_of (by simp only; omega) (by simp only; omega)
theorem nar_left (o : CO) {a b c d f g : Int} (h : S a b) (h' : S c d) {e : Int × Int} (he : sideO o a b c d true = some e) (h1 : a ≤ f) (h2 : g ≤ b) : metO (f, g) (narO o a b c d).1 = metO (f, g) e := by
  unfold S at h h'
  cases o with
  | lt =>
    obtain ⟨e1, rfl⟩ := metO_some (show metO (a, b) (-1000000, d - 1) = some e from he)
    exact metO_of (by show max f a = max f (max a (-1000000)) ∨ _; omega) (by show min g (d - 1) = min g (min b (d - 1)) ∨ _; omega)
  | le =>
    obtain ⟨e1, rfl⟩ := metO_some (show metO (a, b) (-1000000, d - 0) = some e from he)
    exact metO_of (by show max f a = max f (max a (-1000000)) ∨ _; omega) (by show min g d = min g (min b (d - 0)) ∨ _; omega)
  | eq =>
    obtain ⟨e1, rfl⟩ := metO_some (show metO (a, b) (c, d) = some e from he)
    exact metO_of (by show max f c = max f (max a c) ∨ _; omega) (by show min g d = min g (min b d) ∨ _; omega)
  | ne => exact with_left h.2.1 h'.2.1 he h1 h2
theorem nar_right (o : CO) {a b c d f g : Int} (h : S a b) (h' : S c d) {e : Int × Int} (he : sideO o c d a b false = some e) (h1 : c ≤ f) (h2 : g ≤ d) : metO (f, g) (narO o a b c d).2 = metO (f, g) e := by
  unfold S at h h'
  cases o with
  | lt =>
    obtain ⟨e1, rfl⟩ := metO_some (show metO (c, d) (a + 1, 1000000) = some e from he)
    exact metO_of (by show max f (a + 1) = max f (max c (a + 1)) ∨ _; omega) (by show min g d = min g (min d 1000000) ∨ _; omega)
  | le =>
    obtain ⟨e1, rfl⟩ := metO_some (show metO (c, d) (a + 0, 1000000) = some e from he)
    exact metO_of (by show max f a = max f (max c (a + 0)) ∨ _; omega) (by show min g d = min g (min d 1000000) ∨ _; omega)
  | eq =>
    obtain ⟨e1, rfl⟩ := metO_some (show metO (c, d) (a, b) = some e from he)
    exact metO_of (by show max f a = max f (max c a) ∨ _; omega) (by show min g b = min g (min d b) ∨ _; omega)
  | ne => exact with_left h'.2.1 h.2.1 he h1 h2
/-- a number that stands so lies in what is left -/
theorem side_in (o : CO) {a b c d i j : Int} (h : S a b) (h' : S c d) (i1 : a ≤ i) (i2 : i ≤ b) (j1 : c ≤ j) (j2 : j ≤ d) (ho : o.f i j = true) :
    (∃ e, sideO o a b c d true = some e ∧ e.1 ≤ i ∧ i ≤ e.2) ∧ ∃ e, sideO o c d a b false = some e ∧ e.1 ≤ j ∧ j ≤ e.2 := by
  unfold S at h h'
  have mk : ∀ {p q : Int × Int} {x : Int}, p.1 ≤ x → x ≤ p.2 → q.1 ≤ x → x ≤ q.2 → ∃ e, metO p q = some e ∧ e.1 ≤ x ∧ x ≤ e.2 := fun {p q x} a b c d => by
    unfold metO
    rw [if_neg (by omega)]
    exact ⟨_, rfl, by simp only; omega, by simp only; omega⟩
  have wt : ∀ {a b c d i j : Int} (f : Bool), a ≤ i → i ≤ b → c ≤ j → j ≤ d → i ≠ j → ∃ e, sideO .ne a b c d f = some e ∧ e.1 ≤ i ∧ i ≤ e.2 := fun {a b c d i j} f i1 i2 j1 j2 hne => by
    by_cases z : c ≠ d ∨ (c ≠ a ∧ c ≠ b)
    · exact ⟨_, ne_out z, i1, i2⟩
    · have e0 : sideO .ne a b c d f = metO (a, b) (a + (if a = c then 1 else 0), b - (if a ≠ c ∨ b = a then 1 else 0)) := if_neg z
      rw [e0]
      refine mk i1 i2 ?_ ?_
      · simp only
        split <;> omega
      · simp only
        split <;> omega
  cases o with
  | lt =>
    have := of_decide_eq_true ho
    exact ⟨mk i1 i2 (by simp only; omega) (by simp only; omega), mk j1 j2 (by simp only; omega) (by simp only; omega)⟩
  | le =>
    have := of_decide_eq_true ho
    exact ⟨mk i1 i2 (by simp only; omega) (by simp only; omega), mk j1 j2 (by simp only; omega) (by simp only; omega)⟩
  | eq =>
    have : i = j := by simpa [CO.f] using ho
    exact ⟨mk i1 i2 (by simp only; omega) (by simp only; omega), mk j1 j2 (by simp only; omega) (by simp only; omega)⟩
  | ne =>
    have : i ≠ j := by simpa [CO.f] using ho
    exact ⟨wt true i1 i2 j1 j2 this, wt false j1 j2 i1 i2 (Ne.symm this)⟩
/-! dicts of stretches, and a name met with something -/
def isT (_ : Key) (d : D) : Prop := ∃ a b, d = .tup [.int a, .int b]
theorem Kd.mono {P Q : Key → D → Prop} {es : List (Key × D)} {done : List Key} (h : Kd P es done) (i : ∀ k d, P k d → Q k d) : Kd Q es done := ⟨h.nd, fun p hp => i _ _ (h.b p hp), h.has, h.len⟩
theorem lookD_some : ∀ {es : List (Key × D)} {k : Key} {d : D}, lookD es k = some d → (k, d) ∈ es
  | [], k, d, h => by cases h
  | x :: es, k, d, h => by
    unfold lookD at h
    by_cases e : x.1 = k
    · rw [List.find?_cons_of_pos (by simpa using e)] at h
      cases h
      subst e
      exact List.mem_cons_self
    · rw [List.find?_cons_of_neg (by simpa using e)] at h
      exact List.mem_cons_of_mem _ (lookD_some h)
theorem look_store {es : List (Key × D)} (h : (es.map (·.1)).Nodup) (k : Key) (d : D) : lookD (storeD es k d) k = some d := by
  refine lookD_mem (p := (k, d)) (storeD_nd h k d) ?_
  unfold storeD
  split
  · rename_i c
    obtain ⟨p, hp, e⟩ := List.any_eq_true.mp c
    refine List.mem_map.mpr ⟨p, hp, ?_⟩
    rw [if_pos (of_decide_eq_true e), of_decide_eq_true e]
  · exact List.mem_append_right _ (List.mem_singleton.mpr rfl)
theorem look_store_ne {es : List (Key × D)} (h : (es.map (·.1)).Nodup) {k k' : Key} {d d' : D} (hl : lookD es k' = some d') (hn : k' ≠ k) : lookD (storeD es k d) k' = some d' := by
  refine lookD_mem (p := (k', d')) (storeD_nd h k d) ?_
  have hm := lookD_some hl
  unfold storeD
  split
  · refine List.mem_map.mpr ⟨(k', d'), hm, ?_⟩
    rw [if_neg hn]
  · exact List.mem_append_left _ hm
def putM (ks : List (Key × D)) (x : D) (e : Int × Int) : Option (List (Key × D)) := match x with
  | .str s => (match lookD ks (.inr s) with
    | some (.tup [.int f, .int g]) => (metO (f, g) e).map fun p => storeD ks (.inr s) (pD p)
    | _ => none)
  | _ => some ks
/-- a side, and what is known of it where it is a name -/
inductive Sd (ks : List (Key × D)) : D → Prop
  | name {s : Str} {f g : Int} : lookD ks (.inr s) = some (.tup [.int f, .int g]) → Sd ks (.str s)
  | int {i : Int} : Sd ks (.int i)
  | tup {ds : List D} : Sd ks (.tup ds)
theorem putM_name {ks : List (Key × D)} {s : Str} {f g : Int} (h : lookD ks (.inr s) = some (.tup [.int f, .int g])) (e : Int × Int) : putM ks (.str s) e = (metO (f, g) e).map fun p => storeD ks (.inr s) (pD p) := by
  unfold putM
  simp only [h]
theorem pk_step {ks : List (Key × D)} {keys : List Key} (hk : Kd isT ks keys) {x : D} (h : Sd ks x) (hl : ks.length < 16777216) (e : Int × Int) (A0 A1 A2 A3 A5 A6 A7 A8 A9 : Option D) :
    l_p_kept_1 [A0, A1, A2, A3, some (.dct ks), A5, A6, A7, A8, A9, some x, some (pD e)] = match putM ks x e with
      | some k => .nx [A0, A1, A2, A3, some (.dct k), A5, A6, A7, A8, A9, some x, some (pD e)]
      | none => .rt .non := by
  obtain ⟨p, q⟩ := e
  cases h with
  | @name s f g h =>
    have e1 : lookD (storeD ks (.inr s) .non) (.inr s) = some .non := look_store hk.nd _ _
    rw [putM_name h]
    show l_p_kept_1 [A0, A1, A2, A3, some (.dct ks), A5, A6, A7, A8, A9, some (.str s), some (.tup [.int p, .int q])] = _
    walk_at "ul p_kept"
    walk_at "ev"
    simp only [h]
    walk_at "ev"
    simp only [p_met2]
    cases hm : metO (f, g) (p, q) with
    | none =>
      simp only [oS]
      walk_at "ev"
      simp only [q_dput_s hl]
      walk_at "ev"
      simp only [e1]
      walk_at "ev"
    | some r =>
      obtain ⟨u, v⟩ := r
      have e2 : lookD (storeD ks (.inr s) (.tup [.int u, .int v])) (.inr s) = some (.tup [.int u, .int v]) := look_store hk.nd _ _
      simp only [oS]
      walk_at "ev"
      simp only [q_dput_s hl]
      walk_at "ev"
      simp only [e2]
      walk_at "ev"
      rfl
  | int =>
    walk_at "ul p_kept"
    walk_at "ev"
    rfl
  | tup =>
    walk_at "ul p_kept"
    walk_at "ev"
    rfl
theorem lk_step {ks : List (Key × D)} {keys : List Key} (hk : Kd isT ks keys) {x y : D} {t : Str} {k : Int} {z0 z1 : D} {s : Option (Int × Int)} {w : D} (hx : atI [.str t, x, y] (1 + k) = some w) (h : Sd ks w) (hs : atI [z0, z1] k = some (oS s)) (hl : ks.length < 16777216) (A1 A2 A3 : Option D) :
    l_kept_1 [some (.tup [.str t, x, y]), A1, A2, A3, some (.lst [z0, z1]), some (.dct ks), some (.int k)] = match s with
      | none => .rt .non
      | some e => (match putM ks w e with
        | some k' => .nx [some (.tup [.str t, x, y]), A1, A2, A3, some (.lst [z0, z1]), some (.dct k'), some (.int k)]
        | none => .rt .non) := by
  cases s with
  | none =>
    have hs : atI [z0, z1] k = some .non := hs
    walk_at "ul kept"
    walk_at "ev"
    simp only [hs]
    walk_at "ev"
  | some e =>
    obtain ⟨p, q⟩ := e
    have hs : atI [z0, z1] k = some (.tup [.int p, .int q]) := hs
    walk_at "ul kept"
    walk_at "ev"
    simp only [hs]
    walk_at "ev"
    simp only [hx]
    cases h with
    | @name s f g h =>
      have e1 : lookD (storeD ks (.inr s) .non) (.inr s) = some .non := look_store hk.nd _ _
      simp only [putM_name h]
      walk_at "ev"
      simp only [hx, hs]
      walk_at "ev"
      simp only [h]
      walk_at "ev"
      simp only [met3]
      cases hm : metO (f, g) (p, q) with
      | none =>
        simp only [oS]
        walk_at "ev"
        simp only [q_dput_s hl]
        walk_at "ev"
        simp only [hx]
        walk_at "ev"
        simp only [e1]
        walk_at "ev"
      | some r =>
        obtain ⟨u, v⟩ := r
        have e2 : lookD (storeD ks (.inr s) (.tup [.int u, .int v])) (.inr s) = some (.tup [.int u, .int v]) := look_store hk.nd _ _
        simp only [oS]
        walk_at "ev"
        simp only [q_dput_s hl]
        walk_at "ev"
        simp only [hx]
        walk_at "ev"
        simp only [e2]
        walk_at "ev"
        rfl
    | int =>
      walk_at "ev"
      rfl
    | tup =>
      walk_at "ev"
      rfl

theorem putM_ok {ks : List (Key × D)} {keys : List Key} (hk : Kd isT ks keys) {x : D} {e : Int × Int} {k : List (Key × D)} (h : putM ks x e = some k) : Kd isT k keys := by
  unfold putM at h
  split at h
  · rename_i s
    split at h
    · rename_i f g hl
      cases hm : metO (f, g) e with
      | none => rw [hm] at h; cases h
      | some p =>
        rw [hm] at h
        cases h
        exact hk.over ((hk.has _).mp (List.mem_map.mpr ⟨_, lookD_some hl, rfl⟩)) ⟨p.1, p.2, rfl⟩
    · cases h
  · cases h; exact hk
theorem putM_side {ks : List (Key × D)} {keys : List Key} (hk : Kd isT ks keys) {x y : D} {e : Int × Int} {k : List (Key × D)} (h : putM ks x e = some k) (hy : Sd ks y) : Sd k y := by
  cases hy with
  | int => exact .int
  | tup => exact .tup
  | @name s f g hl =>
    unfold putM at h
    split at h
    · rename_i t
      split at h
      · rename_i f' g' hl'
        cases hm : metO (f', g') e with
        | none => rw [hm] at h; cases h
        | some p =>
          rw [hm] at h
          cases h
          by_cases e : (Sum.inr s : Key) = .inr t
          · exact .name (by rw [e]; exact look_store hk.nd _ _)
          · exact .name (look_store_ne hk.nd hl e)
      · cases h
    · cases h; exact .name hl
theorem Er.sd {ks hs : List (Key × D)} {n : Nat} {w : Option Int} {r : Option (Int × Int)} {d : D} (h : Er ks hs n w r d) : Sd ks d := by
  cases h with
  | int => exact .int
  | name h => exact .name h
  | rest => exact .tup
  | op => exact .tup
/-- the two sides are met with what is left of them -/
def keptO (o : CO) (ks : List (Key × D)) (x y : D) : Option (Int × Int) → Option (Int × Int) → Option (List (Key × D))
  | some (a, b), some (c, d) => (sideO o a b c d true).bind fun e1 => (sideO o c d a b false).bind fun e2 => (putM ks x e1).bind fun k1 => putM k1 y e2
  | _, _ => none
def oK : Option (List (Key × D)) → D
  | none => .non
  | some k => .dct k
theorem putM_left (o : CO) {ks hs : List (Key × D)} {n : Nat} {w : Option Int} {x : D} {a b c d : Int} (h : Er ks hs n w (some (a, b)) x) (h' : S c d) {e : Int × Int} (he : sideO o a b c d true = some e) : putM ks x (narO o a b c d).1 = putM ks x e := by
  have hs' := h.S a b rfl
  generalize hr : some (a, b) = r at h
  cases h with
  | int => rfl
  | @name n' s i a' b' hl s' _ _ _ =>
    cases hr
    rw [putM_name hl, putM_name hl, nar_left o hs' h' he (Int.le_refl _) (Int.le_refl _)]
  | rest => rfl
  | op => rfl
theorem putM_right (o : CO) {ks hs : List (Key × D)} {keys : List Key} (hk : Kd isT ks keys) {n : Nat} {w : Option Int} {x y : D} {a b c d : Int} (h : Er ks hs n w (some (c, d)) y) (h' : S a b) {e1 e : Int × Int} (he1 : sideO o a b c d true = some e1) (he : sideO o c d a b false = some e) {k : List (Key × D)} (hp : putM ks x e1 = some k) : putM k y (narO o a b c d).2 = putM k y e := by
  have hs' := h.S c d rfl
  generalize hr : some (c, d) = r at h
  cases h with
  | int => rfl
  | @name n' s i c' d' hl s' _ _ _ =>
    cases hr
    have key : ∃ f g, lookD k (.inr s) = some (.tup [.int f, .int g]) ∧ c ≤ f ∧ g ≤ d := by
      unfold putM at hp
      split at hp
      · rename_i t
        split at hp
        · rename_i f' g' hl'
          cases hm : metO (f', g') e1 with
          | none => rw [hm] at hp; cases hp
          | some p =>
            rw [hm] at hp
            cases hp
            by_cases e : (Sum.inr s : Key) = .inr t
            · cases e
              rw [hl] at hl'
              cases hl'
              obtain ⟨q1, q2⟩ := metO_some hm
              refine ⟨p.1, p.2, look_store hk.nd _ _, ?_, ?_⟩
              · rw [q2]; simp only; omega
              · rw [q2]; simp only; omega
            · exact ⟨c, d, look_store_ne hk.nd hl e, Int.le_refl _, Int.le_refl _⟩
        · cases hp
      · cases hp; exact ⟨c, d, hl, Int.le_refl _, Int.le_refl _⟩
    obtain ⟨f, g, q1, q2, q3⟩ := key
    rw [putM_name q1, putM_name q1, nar_right o h' hs' he q2 q3]
  | rest => rfl
  | op => rfl
theorem keptO_ss {o : CO} {ks : List (Key × D)} {x y : D} {a b c d : Int} : keptO o ks x y (some (a, b)) (some (c, d)) = (sideO o a b c d true).bind fun q => (sideO o c d a b false).bind fun q' => (putM ks x q).bind fun k1 => putM k1 y q' := rfl
theorem isT_of {ks : List (Key × D)} {keys : List Key} (hk : Kd isS ks keys) : Kd isT ks keys := hk.mono fun _ _ ⟨a, b, _, e⟩ => ⟨a, b, e⟩
theorem p_kept (o : CO) {ks hs : List (Key × D)} {keys : List Key} (hk : Kd isS ks keys) (hl : keys.length ≤ 1000) {w w' : Option Int} {r r' : Option (Int × Int)} {x y : D} (hx : Er ks hs 6 w r x) (hy : Er ks hs 6 w' r' y) :
    m_p_kept [.tup [.str o.s, x, y], .dct ks] = some (oK (keptO o ks x y r r')) := by
  have g1 := p_reach hx
  have g2 := p_reach hy
  have kT := isT_of hk
  have l0 : ks.length < 16777216 := by have := hk.len; omega
  cases r with
  | none =>
    simp only [oS] at g1
    walk_at "u p_kept"
    walk_at "ev"
    simp only [g1]
    walk_at "ev"
    simp only [g2]
    walk_at "ev"
    rfl
  | some p =>
    obtain ⟨a, b⟩ := p
    simp only [oS] at g1
    cases r' with
    | none =>
      simp only [oS] at g2
      walk_at "u p_kept"
      walk_at "ev"
      simp only [g1]
      walk_at "ev"
      simp only [g2]
      walk_at "ev"
      rfl
    | some p' =>
      obtain ⟨c, d⟩ := p'
      simp only [oS] at g2
      have s1 := hx.S a b rfl
      have s2 := hy.S c d rfl
      have ci := can_iff o s1 s2
      have n1 := nar (a := a) (b := b) (c := c) (d := d) o
      have c1 := can (a := a) (b := b) (c := c) (d := d) o
      cases hc : canO o a b c d with
      | false =>
        rw [hc] at c1
        have spec : keptO o ks x y (some (a, b)) (some (c, d)) = none := by
          rw [keptO_ss]
          cases e1 : sideO o a b c d true with
          | none => rfl
          | some q =>
            cases e2 : sideO o c d a b false with
            | none => rfl
            | some q' => rw [e1, e2, hc] at ci; exact absurd (ci.mpr ⟨rfl, rfl⟩) (by decide)
        rw [spec]
        walk_at "u p_kept"
        walk_at "ev"
        simp only [g1]
        walk_at "ev"
        simp only [g2]
        walk_at "ev"
        simp only [c1]
        walk_at "ev"
        rfl
      | true =>
        rw [hc] at c1 ci
        obtain ⟨i1, i2⟩ := ci.mp rfl
        cases e1 : sideO o a b c d true with
        | none => rw [e1] at i1; cases i1
        | some q =>
          cases e2 : sideO o c d a b false with
          | none => rw [e2] at i2; cases i2
          | some q' =>
            have spec : keptO o ks x y (some (a, b)) (some (c, d)) = (putM ks x q).bind fun k1 => putM k1 y q' := by
              rw [keptO_ss, e1, e2]
              rfl
            rw [spec]
            have st1 := fun A0 A1 A2 A3 A5 A6 A7 A8 A9 => pk_step kT hx.sd l0 (narO o a b c d).1 A0 A1 A2 A3 A5 A6 A7 A8 A9
            rw [putM_left o hx s2 e1] at st1
            walk_at "u p_kept"
            walk_at "ev"
            simp only [g1]
            walk_at "ev"
            simp only [g2]
            walk_at "ev"
            simp only [c1]
            walk_at "ev"
            simp only [n1]
            walk_at "ev"
            simp only [st1]
            cases h1 : putM ks x q with
            | none =>
              walk_at "ev"
              rfl
            | some k1 =>
              have kT1 := putM_ok kT h1
              have st2 := fun A0 A1 A2 A3 A5 A6 A7 A8 A9 => pk_step kT1 (putM_side kT h1 hy.sd) (by have := kT1.len; omega) (narO o a b c d).2 A0 A1 A2 A3 A5 A6 A7 A8 A9
              rw [putM_right o kT hy s1 e1 e2 h1] at st2
              walk_at "ev"
              simp only [st2]
              show _ = some (oK (putM k1 y q'))
              cases h2 : putM k1 y q' with
              | none =>
                walk_at "ev"
                rfl
              | some k2 =>
                walk_at "ev"
                rfl
theorem kept (o : CO) {ks hs : List (Key × D)} {keys : List Key} (hk : Kd isS ks keys) (hl : keys.length ≤ 1000) {w w' : Option Int} {r r' : Option (Int × Int)} {x y : D} (hx : Er ks hs 6 w r x) (hy : Er ks hs 6 w' r' y) :
    m_kept [.tup [.str o.s, x, y], .dct ks] = some (oK (keptO o ks x y r r')) := by
  have g1 := reach hx
  have g2 := reach hy
  have kT := isT_of hk
  have l0 : ks.length < 16777216 := by have := hk.len; omega
  cases r with
  | none =>
    simp only [oS] at g1
    walk_at "u kept"
    walk_at "ev"
    simp only [g1]
    walk_at "ev"
    simp only [g2]
    walk_at "ev"
    rfl
  | some p =>
    obtain ⟨a, b⟩ := p
    simp only [oS] at g1
    cases r' with
    | none =>
      simp only [oS] at g2
      walk_at "u kept"
      walk_at "ev"
      simp only [g1]
      walk_at "ev"
      simp only [g2]
      walk_at "ev"
      rfl
    | some p' =>
      obtain ⟨c, d⟩ := p'
      simp only [oS] at g2
      have f1 := side (a := a) (b := b) (c := c) (d := d) o true
      have f2 := side (a := c) (b := d) (c := a) (d := b) o false
      have spec : keptO o ks x y (some (a, b)) (some (c, d)) = (sideO o a b c d true).bind fun q => (sideO o c d a b false).bind fun q' => (putM ks x q).bind fun k1 => putM k1 y q' := rfl
      rw [spec]
      generalize hz1 : sideO o a b c d true = z1 at f1 ⊢
      generalize hz2 : sideO o c d a b false = z2 at f2 ⊢
      have st1 := fun A1 A2 A3 => lk_step (x := x) (y := y) (t := o.s) (k := 0) (z0 := oS z1) (z1 := oS z2) (s := z1) (w := x) kT rfl hx.sd rfl l0 A1 A2 A3
      have rg : rgR (some (.int 2)) = some [.int 0, .int 1] := rfl
      walk_at "u kept"
      walk_at "ev"
      simp only [g1]
      walk_at "ev"
      simp only [g2]
      walk_at "ev"
      simp only [f1, f2]
      walk_at "ev"
      simp only [rg]
      walk_at "ev"
      simp only [st1]
      cases z1 with
      | none => walk_at "ev"; rfl
      | some q =>
        simp only [Option.bind_some]
        cases h1 : putM ks x q with
        | none =>
          simp only
          walk_at "ev"
          cases z2 <;> rfl
        | some k1 =>
          have kT1 := putM_ok kT h1
          have st2 := fun A1 A2 A3 => lk_step (x := x) (y := y) (t := o.s) (k := 1) (z0 := oS (some q)) (z1 := oS z2) (s := z2) (w := y) kT1 rfl (putM_side kT h1 hy.sd) rfl (by have := kT1.len; omega) A1 A2 A3
          walk_at "ev"
          simp only [st2]
          cases z2 with
          | none => walk_at "ev"; rfl
          | some q' =>
            show _ = some (oK (putM k1 y q'))
            cases h2 : putM k1 y q' with
            | none => simp only [h2]; walk_at "ev"; rfl
            | some k2 => simp only [h2]; walk_at "ev"; rfl
/-! a thing that is equal to itself -/
def Sf (n : Nat) (d : D) : Prop := ∃ p, toP d = some p ∧ p.canLay0 = true ∧ p.depth ≤ n ∧ PyData.eqv p p = true
theorem Sf.mono {n m : Nat} {d : D} (h : Sf n d) (l : n ≤ m) : Sf m d := by
  obtain ⟨p, a, b, c, e⟩ := h
  exact ⟨p, a, b, by omega, e⟩
theorem Sf.int {n : Nat} {i : Int} : Sf n (.int i) := ⟨.int i, by simp [toP], by simp [PyData.canLay0], by simp [PyData.depth], by simp [PyData.eqv]⟩
theorem Sf.str {n : Nat} {s : Str} (h : PyData.strOk s = true) : Sf n (.str s) := ⟨.str s, by simp [toP], by simpa [PyData.canLay0] using h, by simp [PyData.depth], by simp [PyData.eqv]⟩
theorem Sf.tup3 {n : Nat} {a b c : D} (h1 : Sf n a) (h2 : Sf n b) (h3 : Sf n c) : Sf (n + 1) (.tup [a, b, c]) := by
  obtain ⟨x, a1, a2, a3, a4⟩ := h1
  obtain ⟨y, b1, b2, b3, b4⟩ := h2
  obtain ⟨z, c1, c2, c3, c4⟩ := h3
  refine ⟨.tuple [x, y, z], by simp [toP, toPs, a1, b1, c1], by simp [PyData.canLay0, PyData.canLayAll0, a2, b2, c2], ?_, by simp [PyData.eqv, PyData.eqvAll, a4, b4, c4]⟩
  simp [PyData.depth, PyData.depthAll]
  omega
theorem Sf.eq {n : Nat} {d : D} (h : Sf n d) (hn : n ≤ 64) : eqvD d d = some true := by
  obtain ⟨p, a, b, c, e⟩ := h
  have s : SeqAt.shaped p = true := by
    unfold SeqAt.shaped
    rw [b, decide_eq_true (by omega)]
    rfl
  unfold eqvD
  rw [a]
  simp only [s, e, Bool.and_self, if_true]
theorem Op.ok (o : Op) : PyData.strOk o.s = true := by cases o <;> decide +kernel
theorem CO.ok (o : CO) : PyData.strOk o.s = true := by cases o <;> decide +kernel
theorem restok : PyData.strOk "rest" = true := by decide +kernel
theorem sf_alg {P : Nat → D → Prop} {zs : List Str} (A : Alg P zs) (hz : ∀ z ∈ zs, Nm z) : Alg (fun n d => P n d ∧ Sf n d) zs where
  ne := A.ne
  int n i b := ⟨A.int n i b, .int⟩
  name n z m := ⟨A.name n z m, .str (hz z m).ok⟩
  rest n d m h a b := ⟨A.rest n d m h.1 a b, Sf.tup3 (.str restok) h.2 .int⟩
  op n o d d' h h' := ⟨A.op n o d d' h.1 h'.1, Sf.tup3 (.str o.ok) h.2 h'.2⟩
theorem conditionA {P : Nat → D → Prop} {zs : List Str} (A : Alg P zs) (a b c d e f g h : Int) (l : List D) :
    ∃ (o : CO) (x y : D), P 6 x ∧ P 6 y ∧ m_condition [.lst (.int a :: .int b :: .int c :: .int d :: .int e :: .int f :: .int g :: .int h :: l), .lst (zs.map D.str)] = some (.tup [.str (CO.s o), x, y]) := by
  obtain ⟨x1, h1, e1⟩ := leafA A b 5
  obtain ⟨x2, h2, e2⟩ := expressionA A c d (.int e :: .int f :: .int g :: .int h :: l)
  obtain ⟨x3, h3, e3⟩ := leafA A e 5
  obtain ⟨x4, h4, e4⟩ := expressionA A g h l
  obtain ⟨u, hu, e5⟩ := pick (ds := [.str "<", .str "<=", .str "=", .str "!="]) (i := a % 4) (n := 4) rfl (Int.emod_nonneg _ (by decide)) (Int.emod_lt_of_pos _ (by decide))
  obtain ⟨o, rfl⟩ : ∃ o : CO, u = .str o.s := by
    simp only [List.mem_cons, List.not_mem_nil, or_false] at hu
    rcases hu with rfl | rfl | rfl | rfl
    · exact ⟨.lt, rfl⟩
    · exact ⟨.le, rfl⟩
    · exact ⟨.eq, rfl⟩
    · exact ⟨.ne, rfl⟩
  have step : ∀ p q : Bool, (f % 3 == 0) = p → (f / 3 % 3 == 0) = q → m_condition [.lst (.int a :: .int b :: .int c :: .int d :: .int e :: .int f :: .int g :: .int h :: l), .lst (zs.map D.str)] = some (.tup [.str (CO.s o), if p then x2 else x1, if q then x4 else x3]) := fun p q hp hq => by
    walk_at "u condition"
    walk_at "ev"
    simp only [e1, cut_from2, e2, atI5]
    walk_at "ev"
    simp only [hp]
    cases p <;> walk_at "ev" <;> simp only [e3, cut_from6, e4, atI5] <;> walk_at "ev" <;> simp only [hq] <;> cases q <;> walk_at "ev" <;> simp only [e5] <;> walk_at "ev"
  cases p : f % 3 == 0 <;> cases q : f / 3 % 3 == 0
  · exact ⟨o, _, _, h1, h3, step _ _ p q⟩
  · exact ⟨o, _, _, h1, h4, step _ _ p q⟩
  · exact ⟨o, _, _, h2, h3, step _ _ p q⟩
  · exact ⟨o, _, _, h2, h4, step _ _ p q⟩
def contrD (o : CO) (x y : D) : D := match o with
  | .lt => .tup [.str "<=", y, x]
  | .le => .tup [.str "<", y, x]
  | .eq => .tup [.str "!=", x, y]
  | .ne => .tup [.str "=", x, y]
theorem p_contrary (o : CO) {x y : D} : m_p_contrary [.tup [.str o.s, x, y]] = some (contrD o x y) := by
  cases o <;> simp only [CO.s] <;> walk_at "u p_contrary" <;> walk_at "ev" <;> rfl
theorem contrary (o : CO) {x y : D} : m_contrary [.tup [.str o.s, x, y]] = some (contrD o x y) := by
  walk_at "u contrary"
  walk_at "ev"
  simp only [disp4]
  cases o <;> rfl
theorem sd_loop {ks : List (Key × D)} {keys : List Key} (hk : Kd isT ks keys) : ∀ (suf : List (Key × D)) (o2 : Option D), (∀ p ∈ suf, p ∈ ks) → ∃ p2, forD (gPut 2) l_same_dict_1 (suf.map fun p => kD p.1) [some (.dct ks), some (.dct ks), o2] = .nx [some (.dct ks), some (.dct ks), p2]
  | [], o2, _ => ⟨o2, rfl⟩
  | (k, d) :: suf, o2, h => by
    have hm : (k, d) ∈ ks := h _ List.mem_cons_self
    have e1 : lookD ks k = some d := lookD_mem hk.nd hm
    obtain ⟨a, b, rfl⟩ := hk.b _ hm
    obtain ⟨p2, e2⟩ := sd_loop hk suf (some (kD k)) fun p hp => h p (List.mem_cons_of_mem _ hp)
    refine ⟨p2, ?_⟩
    have t : l_same_dict_1 [some (.dct ks), some (.dct ks), some (kD k)] = .nx [some (.dct ks), some (.dct ks), some (kD k)] := by
      walk_at "ul same_dict"
      walk_at "ev"
      simp only [e1]
      walk_at "ev"
      simp only [is_st]
      walk_at "ev"
    rw [List.map_cons, q_forD]
    show forR2 (gPut 2) l_same_dict_1 _ (some [some (.dct ks), some (.dct ks), some (kD k)]) = _
    rw [q_for2, t, ← e2]
    rfl
theorem dict_self {ks : List (Key × D)} {keys : List Key} (hk : Kd isT ks keys) : dictD ks ks = some true := by
  refine dictD_self ks fun p hp => ⟨p.2, lookD_mem hk.nd hp, ?_⟩
  obtain ⟨a, b, e⟩ := hk.b p hp
  rw [e, eqv_int2]
  simp
theorem same_dict {ks : List (Key × D)} {keys : List Key} (hk : Kd isT ks keys) : m_same_dict [.dct ks, .dct ks] = some (.bl true) := by
  obtain ⟨p2, e⟩ := sd_loop hk ks none fun _ h => h
  have e1 := dict_self hk
  walk_at "u same_dict"
  walk_at "ev"
  simp only [e1]
  walk_at "ev"
  simp only [e]
  walk_at "ev"
/-- what is held lies in what is known -/
def Lies (ks hs : List (Key × D)) : Prop := ∀ p ∈ hs, ∃ a b i, lookD ks p.1 = some (.tup [.int a, .int b]) ∧ a ≤ i ∧ i ≤ b ∧ p.2 = .int i
theorem lies_put {ks hs : List (Key × D)} {keys : List Key} (hk : Kd isT ks keys) (hn : (hs.map (·.1)).Nodup) (h : Lies ks hs) {x : D} {e : Int × Int} {i : Int} (hx : ∀ s, x = .str s → lookD hs (.inr s) = some (.int i)) (h1 : e.1 ≤ i) (h2 : i ≤ e.2) (sd : Sd ks x) : ∃ k, putM ks x e = some k ∧ Lies k hs := by
  cases sd with
  | int => exact ⟨ks, rfl, h⟩
  | tup => exact ⟨ks, rfl, h⟩
  | @name s f g hl =>
    have hi := hx s rfl
    obtain ⟨a, b, i', l1, l2, l3, l4⟩ := h _ (lookD_some hi)
    simp only at l1
    rw [hl] at l1
    cases l1
    cases l4
    have hm : metO (f, g) e = some (max f e.1, min g e.2) := by
      unfold metO
      rw [if_neg (by simp only; omega)]
    refine ⟨storeD ks (.inr s) (pD (max f e.1, min g e.2)), by rw [putM_name hl, hm]; rfl, fun p hp => ?_⟩
    by_cases c : p.1 = .inr s
    · refine ⟨max f e.1, min g e.2, i, by rw [c]; exact look_store hk.nd _ _, by omega, by omega, ?_⟩
      have := lookD_mem hn hp
      rw [c, hi] at this
      exact (Option.some.inj this).symm
    · obtain ⟨a, b, j, m1, m2⟩ := h p hp
      exact ⟨a, b, j, look_store_ne hk.nd m1 c, m2⟩
theorem good_loop {ks hs : List (Key × D)} (told known due : Option D) (hn : (hs.map (·.1)).Nodup) (h : Lies ks hs) : ∀ (suf : List (Key × D)) (o5 : Option D), (∀ p ∈ suf, p ∈ hs) → ∃ p5, forD (gPut 5) l_good_2 (suf.map fun p => kD p.1) [told, known, some (.dct hs), some (.dct ks), due, o5] = .nx [told, known, some (.dct hs), some (.dct ks), due, p5]
  | [], o5, _ => ⟨o5, rfl⟩
  | (k, d) :: suf, o5, hh => by
    have hm : (k, d) ∈ hs := hh _ List.mem_cons_self
    have e1 : lookD hs k = some d := lookD_mem hn hm
    obtain ⟨a, b, i, l1, l2, l3, l4⟩ := h _ hm
    simp only at l1 l4
    subst l4
    obtain ⟨p5, e2⟩ := good_loop told known due hn h suf (some (kD k)) fun p hp => hh p (List.mem_cons_of_mem _ hp)
    refine ⟨p5, ?_⟩
    have t : l_good_2 [told, known, some (.dct hs), some (.dct ks), due, some (kD k)] = .nx [told, known, some (.dct hs), some (.dct ks), due, some (kD k)] := by
      unfold l_good_2
      walk_at "ev"
      simp only [l1, e1]
      walk_at "ev"
      simp only [decide_eq_true l2, decide_eq_true l3]
      walk_at "ev"
    rw [List.map_cons, q_forD]
    show forR2 (gPut 5) l_good_2 _ (some [told, known, some (.dct hs), some (.dct ks), due, some (kD k)]) = _
    rw [q_for2, t, ← e2]
    rfl
theorem Er.nm {ks hs : List (Key × D)} {n : Nat} {w : Option Int} {r : Option (Int × Int)} {d : D} (h : Er ks hs n w r d) : ∀ s, d = .str s → ∃ i, w = some i ∧ lookD hs (.inr s) = some (.int i) := by
  cases h with
  | int => exact fun s e => by cases e
  | @name n x i a b hl s l h1 h2 => exact fun s e => by cases e; exact ⟨i, rfl, l⟩
  | rest => exact fun s e => by cases e
  | op => exact fun s e => by cases e
theorem good (o : CO) {ks hs : List (Key × D)} {keys : List Key} (hk : Kd isS ks keys) (hl : keys.length ≤ 1000) (hh : Kd (inS ks) hs (ks.map (·.1))) {w w' : Option Int} {r r' : Option (Int × Int)} {x y : D} (hx : Er ks hs 6 w r x) (hy : Er ks hs 6 w' r' y) :
    m_good [.tup [.str o.s, x, y], .dct ks, .dct hs] = some (.bl true) := by
  have kT := isT_of hk
  have g1 := p_kept o hk hl hx hy
  have g2 := kept o hk hl hx hy
  have g3 := holds o hx.ex hy.ex
  have li : Lies ks hs := fun p hp => by
    obtain ⟨a, b, i, e1, s, i1, i2, e2⟩ := hh.b p hp
    exact ⟨a, b, i, e1, i1, i2, e2⟩
  have sound : hd o w w' = some true → ∃ k, keptO o ks x y r r' = some k ∧ Lies k hs := fun e => by
    cases w with
    | none => cases e
    | some i =>
      cases w' with
      | none => cases e
      | some j =>
        obtain ⟨a, b, rfl, i1, i2⟩ := hx.sound i rfl
        obtain ⟨c, d, rfl, j1, j2⟩ := hy.sound j rfl
        have ho : o.f i j = true := Option.some.inj e
        obtain ⟨⟨e1, s1, p1, p2⟩, e2, s2, q1, q2⟩ := side_in o (hx.S a b rfl) (hy.S c d rfl) i1 i2 j1 j2 ho
        obtain ⟨k1, m1, L1⟩ := lies_put kT hh.nd li (x := x) (e := e1) (i := i) (fun s es => by obtain ⟨i', z1, z2⟩ := hx.nm s es; cases z1; exact z2) p1 p2 hx.sd
        have kT1 := putM_ok kT m1
        obtain ⟨k2, m2, L2⟩ := lies_put kT1 hh.nd L1 (x := y) (e := e2) (i := j) (fun s es => by obtain ⟨i', z1, z2⟩ := hy.nm s es; cases z1; exact z2) q1 q2 (putM_side kT m1 hy.sd)
        refine ⟨k2, ?_, L2⟩
        rw [keptO_ss, s1, s2]
        simp only [Option.bind_some, m1, m2]
  have hT : ∀ k, keptO o ks x y r r' = some k → Kd isT k keys := fun k e => by
    cases r with
    | none => cases e
    | some p =>
      cases r' with
      | none => cases e
      | some p' =>
        obtain ⟨a, b⟩ := p
        obtain ⟨c, d⟩ := p'
        rw [keptO_ss] at e
        cases e1 : sideO o a b c d true with
        | none => rw [e1] at e; cases e
        | some q =>
          cases e2 : sideO o c d a b false with
          | none => rw [e1, e2] at e; cases e
          | some q' =>
            rw [e1, e2] at e
            simp only [Option.bind_some] at e
            cases e3 : putM ks x q with
            | none => rw [e3] at e; cases e
            | some k1 => rw [e3] at e; exact putM_ok (putM_ok kT e3) e
  cases hK : keptO o ks x y r r' with
  | none =>
    rw [hK] at g1 g2 sound
    simp only [oK] at g1 g2
    have g4 : hd o w w' = none ∨ hd o w w' = some false := by
      cases z : hd o w w' with
      | none => exact .inl rfl
      | some b =>
        cases b with
        | false => exact .inr rfl
        | true => obtain ⟨k, e, _⟩ := sound z; cases e
    walk_at "u good"
    walk_at "ev"
    simp only [g1]
    walk_at "ev"
    simp only [g2]
    walk_at "ev"
    simp only [g3]
    rcases g4 with g4 | g4 <;> rw [g4] <;> simp only [oB] <;> walk_at "ev"
  | some k =>
    rw [hK] at g1 g2 sound
    have kk := hT k hK
    have g5 := same_dict kk
    simp only [oK] at g1 g2
    cases z : hd o w w' with
    | none =>
      rw [z] at g3
      simp only [oB] at g3
      walk_at "u good"
      walk_at "ev"
      simp only [g1]
      walk_at "ev"
      simp only [g2]
      walk_at "ev"
      simp only [g5]
      walk_at "ev"
      simp only [g3]
      walk_at "ev"
    | some b =>
      rw [z] at g3 sound
      cases b with
      | false =>
        simp only [oB] at g3
        walk_at "u good"
        walk_at "ev"
        simp only [g1]
        walk_at "ev"
        simp only [g2]
        walk_at "ev"
        simp only [g5]
        walk_at "ev"
        simp only [g3]
        walk_at "ev"
      | true =>
        simp only [oB] at g3
        obtain ⟨k', e, L⟩ := sound rfl
        cases e
        obtain ⟨p5, lp⟩ := good_loop (some (.tup [.str o.s, x, y])) (some (.dct ks)) (some (.dct k)) hh.nd L hs none fun _ h => h
        walk_at "u good"
        walk_at "ev"
        simp only [g1]
        walk_at "ev"
        simp only [g2]
        walk_at "ev"
        simp only [g5]
        walk_at "ev"
        simp only [g3]
        walk_at "ev"
        simp only [lp]
        walk_at "ev"
theorem ints14 {xs : List Int} (h : xs.length = 14) : ∃ a b c d e f g i j k l m n o, xs = [a, b, c, d, e, f, g, i, j, k, l, m, n, o] := by
  match xs, h with
  | [a, b, c, d, e, f, g, i, j, k, l, m, n, o], _ => exact ⟨a, b, c, d, e, f, g, i, j, k, l, m, n, o, rfl⟩
theorem told {ks hs : List (Key × D)} {zs : List Str} (hk : Kd isS ks (zs.map Sum.inr)) {P : Nat → D → Prop} (A : Alg P zs) (s : D) (c2 : Int) (e2 : m_cell_at [s, .int 2] = some (.int c2)) :
    ∃ (o : CO) (x y : D), P 6 x ∧ P 6 y ∧ m_told [s, .lst (zs.map D.str), .dct ks] = some (.tup [.str (CO.s o), x, y]) := by
  obtain ⟨xs, x1, _, e3⟩ := stream c2 14 (by decide)
  obtain ⟨a, b, c, d, e, f, g, i, j, k, l, m, n, q, rfl⟩ := ints14 x1
  have e3' : m_stream [.int c2, .int 14] = some (.lst [.int a, .int b, .int c, .int d, .int e, .int f, .int g, .int i, .int j, .int k, .int l, .int m, .int n, .int q]) := e3
  obtain ⟨o, x, y, hx, hy, e4⟩ := conditionA A a b c d e f g i [.int j, .int k, .int l, .int m, .int n, .int q]
  have t12 : atI [BW.D.int a, .int b, .int c, .int d, .int e, .int f, .int g, .int i, .int j, .int k, .int l, .int m, .int n, .int q] 12 = some (.int n) := atI_get' (by omega) rfl
  have t13 : atI [BW.D.int a, .int b, .int c, .int d, .int e, .int f, .int g, .int i, .int j, .int k, .int l, .int m, .int n, .int q] 13 = some (.int q) := atI_get' (by omega) rfl
  have hp : (0 : Int) < (zs.map D.str).length := by rw [List.length_map]; have := A.ne; omega
  have e5 := q_mod (a := q) hp
  obtain ⟨z', hz', e6⟩ := atI_mem (ds := zs.map D.str) (i := q % ((zs.map D.str).length : Int)) (Int.emod_nonneg _ (by omega)) (Int.emod_lt_of_pos _ hp)
  obtain ⟨z, hz, rfl⟩ := List.mem_map.mp hz'
  rw [List.length_map] at e5 e6
  obtain ⟨dz, e7, u, v, suv, rfl⟩ := hk.look (k := .inr z) (List.mem_map.mpr ⟨z, hz, rfl⟩)
  obtain ⟨t1, ht1, e8⟩ := pick (ds := [.int u, .int v]) (i := q / 12 % 2) (n := 2) rfl (Int.emod_nonneg _ (by decide)) (Int.emod_lt_of_pos _ (by decide))
  obtain ⟨t1, rfl⟩ : ∃ w : Int, t1 = .int w := by
    simp only [List.mem_cons, List.not_mem_nil, or_false] at ht1
    rcases ht1 with rfl | rfl <;> exact ⟨_, rfl⟩
  obtain ⟨t2, ht2, e9⟩ := pick (ds := [.int 0, .int 0, .int (-1), .int 1]) (i := q / 24 % 4) (n := 4) rfl (Int.emod_nonneg _ (by decide)) (Int.emod_lt_of_pos _ (by decide))
  obtain ⟨t2, rfl⟩ : ∃ w : Int, t2 = .int w := by
    simp only [List.mem_cons, List.not_mem_nil, or_false] at ht2
    rcases ht2 with rfl | rfl | rfl | rfl <;> exact ⟨_, rfl⟩
  have pz : P 6 (.str z) := A.name 5 z hz
  have pn : P 6 (.int (min 1000000 (max (-1000000) (t1 + t2)))) := A.int 5 _ ⟨by omega, by omega⟩
  have key : ∃ near, P 6 near ∧ atI [BW.D.str z, .int (min 1000000 (max (-1000000) (t1 + t2)))] (if decide (0 < q / 96 % 4) = true then 1 else 0) = some near := by
    cases decide (0 < q / 96 % 4) with
    | true => exact ⟨_, pn, atI1⟩
    | false => exact ⟨_, pz, atI0⟩
  obtain ⟨near, hn, e10⟩ := key
  by_cases c0 : n % 2 = 0
  · have c0' : (n % 2 == 0) = true := beq_t c0
    obtain ⟨r, hr, e11⟩ := pick (ds := [BW.D.tup [.str o.s, .str z, near], .tup [.str o.s, near, .str z]]) (i := q / 384 % 2) (n := 2) rfl (Int.emod_nonneg _ (by decide)) (Int.emod_lt_of_pos _ (by decide))
    have fin : m_told [s, .lst (zs.map D.str), .dct ks] = some r := by
      walk_at "u told"
      walk_at "ev"
      simp only [e2]
      walk_at "ev"
      simp only [e3']
      walk_at "ev"
      simp only [e4]
      walk_at "ev"
      simp only [t12, t13]
      walk_at "ev"
      simp only [c0']
      walk_at "ev"
      simp only [t13]
      walk_at "ev"
      simp only [e5]
      walk_at "ev"
      simp only [e6]
      walk_at "ev"
      simp only [e7, t13]
      walk_at "ev"
      simp only [e8, e9]
      walk_at "ev"
      simp only [t13]
      walk_at "ev"
      simp only [min_eq, max_eq, e10]
      walk_at "ev"
      simp only [t13]
      walk_at "ev"
      simp only [e11]
      walk_at "ev"
    simp only [List.mem_cons, List.not_mem_nil, or_false] at hr
    rcases hr with rfl | rfl
    · exact ⟨o, _, _, pz, hn, fin⟩
    · exact ⟨o, _, _, hn, pz, fin⟩
  · have c0' : (n % 2 == 0) = false := beq_f c0
    refine ⟨o, x, y, hx, hy, ?_⟩
    walk_at "u told"
    walk_at "ev"
    simp only [e2]
    walk_at "ev"
    simp only [e3']
    walk_at "ev"
    simp only [e4]
    walk_at "ev"
    simp only [t12]
    walk_at "ev"
    simp only [c0']
    walk_at "ev"
theorem hd_lt (w w' : Option Int) : hd .le w' w = (hd .lt w w').map (!·) := by
  cases w with
  | none => cases w' <;> rfl
  | some a =>
    cases w' with
    | none => rfl
    | some b =>
      show some (decide (b ≤ a)) = some (!decide (a < b))
      by_cases h : a < b
      · rw [decide_eq_true h, decide_eq_false (by omega)]; rfl
      · rw [decide_eq_false h, decide_eq_true (by omega)]; rfl
theorem hd_le (w w' : Option Int) : hd .lt w' w = (hd .le w w').map (!·) := by
  cases w with
  | none => cases w' <;> rfl
  | some a =>
    cases w' with
    | none => rfl
    | some b =>
      show some (decide (b < a)) = some (!decide (a ≤ b))
      by_cases h : a ≤ b
      · rw [decide_eq_true h, decide_eq_false (by omega)]; rfl
      · rw [decide_eq_false h, decide_eq_true (by omega)]; rfl
theorem stream1 (c : Int) : ∃ x, R x ∧ m_stream [.int c, .int 1] = some (.lst [.int x]) := by
  obtain ⟨xs, h1, h2, h3⟩ := stream c 1 (by decide)
  match xs, h1 with
  | [x], _ => exact ⟨x, h2 x (by simp), h3⟩
theorem law_true (xs : List Int) (hx : xs.length ≤ 63) : m_law [.lst (xs.map .int)] = some (.bl true) := by
  obtain ⟨c0, e0⟩ := cell_at xs 0
  obtain ⟨c1, e1⟩ := cell_at xs 1
  obtain ⟨c2, e2⟩ := cell_at xs 2
  obtain ⟨c3, e3⟩ := cell_at xs 3
  obtain ⟨x0, x1, x2, R0, R1, R2, f0⟩ := stream3 c0
  obtain ⟨n, n1, n2, f1⟩ : ∃ n : Nat, 1 ≤ n ∧ n ≤ 100 ∧ atI [D.int (1 + x1 % 3), D.int 12] (if (x1 / 3 % 8 == 0) = true then 1 else 0) = some (D.int (n : Nat)) := by
    have h0 := Int.emod_nonneg x1 (show (3 : Int) ≠ 0 by decide)
    have h1 := Int.emod_lt_of_pos x1 (show (0 : Int) < 3 by decide)
    cases x1 / 3 % 8 == 0 with
    | false => exact ⟨(1 + x1 % 3).toNat, by omega, by omega, by rw [Int.toNat_of_nonneg (show 0 ≤ 1 + x1 % 3 by omega)]; exact atI0⟩
    | true => exact ⟨12, by decide, by decide, atI1⟩
  obtain ⟨zs, ⟨z1, znm⟩, f2⟩ := names (c := x0) n n2
  obtain ⟨y, hy, f3⟩ := stream1 c1
  obtain ⟨ks, hk, f4⟩ := known y hy zs (by omega)
  have m0 := Int.emod_nonneg c3 (show (2147483647 : Int) ≠ 0 by decide)
  have m1 := Int.emod_lt_of_pos c3 (show (0 : Int) < 2147483647 by decide)
  have kl : ks.length ≤ 100 := by have := hk.len; rw [List.length_map] at this; omega
  obtain ⟨hs, hh, f6⟩ := held hk kl (x := c3 % 2147483647) ⟨m0, m1⟩
  have e0' : m_cell_at [.lst (xs.map .int), .int 0] = some (.int c0) := e0
  have e1' : m_cell_at [.lst (xs.map .int), .int 1] = some (.int c1) := e1
  have e2' : m_cell_at [.lst (xs.map .int), .int 2] = some (.int c2) := e2
  have e3' : m_cell_at [.lst (xs.map .int), .int 3] = some (.int c3) := e3
  have A := sf_alg (er_alg hk hh (by omega)) znm
  obtain ⟨o, d, d', ⟨⟨w, r, hd1⟩, sf1⟩, ⟨⟨w', r', hd2⟩, sf2⟩, f7⟩ := told (hs := hs) hk A _ c2 e2'
  have hl : (zs.map (Sum.inr : Str → Key)).length ≤ 1000 := by rw [List.length_map]; omega
  have g1 := good o hk hl hh hd1 hd2
  have g2 : m_good [contrD o d d', .dct ks, .dct hs] = some (.bl true) := by
    cases o with
    | lt => exact good .le hk hl hh hd2 hd1
    | le => exact good .lt hk hl hh hd2 hd1
    | eq => exact good .ne hk hl hh hd1 hd2
    | ne => exact good .eq hk hl hh hd1 hd2
  have g3 := p_contrary o (x := d) (y := d')
  have g4 := contrary o (x := d) (y := d')
  have g5 : eqvD (contrD o d d') (contrD o d d') = some true := by
    have a1 : PyData.strOk "<=" = true := by decide +kernel
    have a2 : PyData.strOk "<" = true := by decide +kernel
    have a3 : PyData.strOk "!=" = true := by decide +kernel
    have a4 : PyData.strOk "=" = true := by decide +kernel
    cases o with
    | lt => exact (Sf.tup3 (.str a1) sf2 sf1).eq (by decide)
    | le => exact (Sf.tup3 (.str a2) sf2 sf1).eq (by decide)
    | eq => exact (Sf.tup3 (.str a3) sf1 sf2).eq (by decide)
    | ne => exact (Sf.tup3 (.str a4) sf1 sf2).eq (by decide)
  have g6 : ∃ l, contrD o d d' = .tup l := by cases o <;> exact ⟨_, rfl⟩
  have g7 := holds o hd1.ex hd2.ex
  have g8 : m_holds [contrD o d d', .dct hs] = some (oB ((hd o w w').map (!·))) := by
    have e : ∀ (o2 : CO) (u v : Option Int) (x y : D), Ex hs 6 u x → Ex hs 6 v y → hd o2 u v = (hd o w w').map (!·) → m_holds [.tup [.str o2.s, x, y], .dct hs] = some (oB ((hd o w w').map (!·))) := fun o2 u v x y h h' e => by rw [← e]; exact holds o2 h h'
    cases o with
    | lt => exact e .le w' w d' d hd2.ex hd1.ex (hd_lt w w')
    | le => exact e .lt w' w d' d hd2.ex hd1.ex (hd_le w w')
    | eq => exact e .ne w w' d d' hd1.ex hd2.ex (by cases w <;> cases w' <;> simp [hd, CO.f])
    | ne => exact e .eq w w' d d' hd1.ex hd2.ex (by cases w <;> cases w' <;> simp [hd, CO.f])
  have g9 := dict_self (isT_of hk)
  obtain ⟨l, g6⟩ := g6
  rw [g6] at g2 g3 g4 g5 g8
  walk_at "u law"
  walk_at "ev"
  simp only [e0']
  walk_at "ev"
  simp only [f0]
  walk_at "ev"
  simp only [f1]
  walk_at "ev"
  simp only [f2]
  walk_at "ev"
  simp only [e1']
  walk_at "ev"
  simp only [f3]
  walk_at "ev"
  simp only [f4]
  walk_at "ev"
  simp only [e3']
  walk_at "ev"
  simp only [f6]
  walk_at "ev"
  simp only [f7]
  walk_at "ev"
  simp only [g3]
  walk_at "ev"
  simp only [g4]
  walk_at "ev"
  simp only [g5]
  walk_at "ev"
  simp only [g1]
  walk_at "ev"
  simp only [g2]
  walk_at "ev"
  simp only [g7, g8]
  cases hd o w w' with
  | none =>
    simp only [Option.map_none, oB]
    walk_at "ev"
    simp only [g9]
    walk_at "ev"
  | some b =>
    simp only [Option.map_some, oB]
    walk_at "ev"
    have nb : (b == !b) = false := by cases b <;> rfl
    simp only [nb]
    walk_at "ev"
    simp only [g9]
    walk_at "ev"
end K09

set_option maxRecDepth 100000
namespace K09
open PySem PySem.Spec L2 BW
set_option maxHeartbeats 0 in
theorem all_mk {l : PySem.W.OpenLaw} {w : World} {K : PySem.W.Frag} {h : Heap} {mg : Str → Option Value} {fa : Addr} (X : K.In h) (G : h.Ns mainGlobals mg) (hfa : mg "law" = some (.ref fa))
    {f0 : Addr} {od0 an0 : Option Addr} {sl0 : Array (Option Value)} {oc0 kV0 dc0 pm0 cd0 ct0 : Value}
    (a0 : PySem.W.nsIn K mainGlobals "_law_cell_at" = some (some (.ref f0))) (l0 : K.lookup f0 = some ⟨oc0, od0, .func (PySem.W.fnOf "_law_cell_at" "_law_cell_at" (defArgs s_cell_at) (defBody s_cell_at) (defScope s_cell_at) .none kV0 dc0 pm0 an0 cd0 ct0), sl0⟩) (c0 : PySem.W.codeIn K cd0 "_law_cell_at" = true) (k0 : PySem.W.keepIn K (.ref f0) = true)
    {f1 : Addr} {od1 an1 : Option Addr} {sl1 : Array (Option Value)} {oc1 kV1 dc1 pm1 cd1 ct1 : Value}
    (a1 : PySem.W.nsIn K mainGlobals "_law_contrary" = some (some (.ref f1))) (l1 : K.lookup f1 = some ⟨oc1, od1, .func (PySem.W.fnOf "_law_contrary" "_law_contrary" (defArgs s_contrary) (defBody s_contrary) (defScope s_contrary) .none kV1 dc1 pm1 an1 cd1 ct1), sl1⟩) (c1 : PySem.W.codeIn K cd1 "_law_contrary" = true) (k1 : PySem.W.keepIn K (.ref f1) = true)
    {f2 : Addr} {od2 an2 : Option Addr} {sl2 : Array (Option Value)} {oc2 kV2 dc2 pm2 cd2 ct2 : Value}
    (a2 : PySem.W.nsIn K mainGlobals "_law_worth" = some (some (.ref f2))) (l2 : K.lookup f2 = some ⟨oc2, od2, .func (PySem.W.fnOf "_law_worth" "_law_worth" (defArgs s_worth) (defBody s_worth) (defScope s_worth) .none kV2 dc2 pm2 an2 cd2 ct2), sl2⟩) (c2 : PySem.W.codeIn K cd2 "_law_worth" = true) (k2 : PySem.W.keepIn K (.ref f2) = true)
    {f3 : Addr} {od3 an3 : Option Addr} {sl3 : Array (Option Value)} {oc3 kV3 dc3 pm3 cd3 ct3 : Value}
    (a3 : PySem.W.nsIn K mainGlobals "_law_holds" = some (some (.ref f3))) (l3 : K.lookup f3 = some ⟨oc3, od3, .func (PySem.W.fnOf "_law_holds" "_law_holds" (defArgs s_holds) (defBody s_holds) (defScope s_holds) .none kV3 dc3 pm3 an3 cd3 ct3), sl3⟩) (c3 : PySem.W.codeIn K cd3 "_law_holds" = true) (k3 : PySem.W.keepIn K (.ref f3) = true)
    {f4 : Addr} {od4 an4 : Option Addr} {sl4 : Array (Option Value)} {oc4 kV4 dc4 pm4 cd4 ct4 : Value}
    (a4 : PySem.W.nsIn K mainGlobals "_law_met" = some (some (.ref f4))) (l4 : K.lookup f4 = some ⟨oc4, od4, .func (PySem.W.fnOf "_law_met" "_law_met" (defArgs s_met) (defBody s_met) (defScope s_met) .none kV4 dc4 pm4 an4 cd4 ct4), sl4⟩) (c4 : PySem.W.codeIn K cd4 "_law_met" = true) (k4 : PySem.W.keepIn K (.ref f4) = true)
    {f5 : Addr} {od5 an5 : Option Addr} {sl5 : Array (Option Value)} {oc5 kV5 dc5 pm5 cd5 ct5 : Value}
    (a5 : PySem.W.nsIn K mainGlobals "_law_cut" = some (some (.ref f5))) (l5 : K.lookup f5 = some ⟨oc5, od5, .func (PySem.W.fnOf "_law_cut" "_law_cut" (defArgs s_cut) (defBody s_cut) (defScope s_cut) .none kV5 dc5 pm5 an5 cd5 ct5), sl5⟩) (c5 : PySem.W.codeIn K cd5 "_law_cut" = true) (k5 : PySem.W.keepIn K (.ref f5) = true)
    {f6 : Addr} {od6 an6 : Option Addr} {sl6 : Array (Option Value)} {oc6 kV6 dc6 pm6 cd6 ct6 : Value}
    (a6 : PySem.W.nsIn K mainGlobals "_law_reach" = some (some (.ref f6))) (l6 : K.lookup f6 = some ⟨oc6, od6, .func (PySem.W.fnOf "_law_reach" "_law_reach" (defArgs s_reach) (defBody s_reach) (defScope s_reach) .none kV6 dc6 pm6 an6 cd6 ct6), sl6⟩) (c6 : PySem.W.codeIn K cd6 "_law_reach" = true) (k6 : PySem.W.keepIn K (.ref f6) = true)
    {f7 : Addr} {od7 an7 : Option Addr} {sl7 : Array (Option Value)} {oc7 kV7 dc7 pm7 cd7 ct7 : Value}
    (a7 : PySem.W.nsIn K mainGlobals "_law_side" = some (some (.ref f7))) (l7 : K.lookup f7 = some ⟨oc7, od7, .func (PySem.W.fnOf "_law_side" "_law_side" (defArgs s_side) (defBody s_side) (defScope s_side) .none kV7 dc7 pm7 an7 cd7 ct7), sl7⟩) (c7 : PySem.W.codeIn K cd7 "_law_side" = true) (k7 : PySem.W.keepIn K (.ref f7) = true)
    {f8 : Addr} {od8 an8 : Option Addr} {sl8 : Array (Option Value)} {oc8 kV8 dc8 pm8 cd8 ct8 : Value}
    (a8 : PySem.W.nsIn K mainGlobals "_law_kept" = some (some (.ref f8))) (l8 : K.lookup f8 = some ⟨oc8, od8, .func (PySem.W.fnOf "_law_kept" "_law_kept" (defArgs s_kept) (defBody s_kept) (defScope s_kept) .none kV8 dc8 pm8 an8 cd8 ct8), sl8⟩) (c8 : PySem.W.codeIn K cd8 "_law_kept" = true) (k8 : PySem.W.keepIn K (.ref f8) = true)
    {f9 : Addr} {od9 an9 : Option Addr} {sl9 : Array (Option Value)} {oc9 kV9 dc9 pm9 cd9 ct9 : Value}
    (a9 : PySem.W.nsIn K mainGlobals "_law_whole" = some (some (.ref f9))) (l9 : K.lookup f9 = some ⟨oc9, od9, .func (PySem.W.fnOf "_law_whole" "_law_whole" (defArgs s_whole) (defBody s_whole) (defScope s_whole) .none kV9 dc9 pm9 an9 cd9 ct9), sl9⟩) (c9 : PySem.W.codeIn K cd9 "_law_whole" = true) (k9 : PySem.W.keepIn K (.ref f9) = true)
    {f10 : Addr} {od10 an10 : Option Addr} {sl10 : Array (Option Value)} {oc10 kV10 dc10 pm10 cd10 ct10 : Value}
    (a10 : PySem.W.nsIn K mainGlobals "_law_is_stretch" = some (some (.ref f10))) (l10 : K.lookup f10 = some ⟨oc10, od10, .func (PySem.W.fnOf "_law_is_stretch" "_law_is_stretch" (defArgs s_is_stretch) (defBody s_is_stretch) (defScope s_is_stretch) .none kV10 dc10 pm10 an10 cd10 ct10), sl10⟩) (c10 : PySem.W.codeIn K cd10 "_law_is_stretch" = true) (k10 : PySem.W.keepIn K (.ref f10) = true)
    {f11 : Addr} {od11 an11 : Option Addr} {sl11 : Array (Option Value)} {oc11 kV11 dc11 pm11 cd11 ct11 : Value}
    (a11 : PySem.W.nsIn K mainGlobals "_law_same_dict" = some (some (.ref f11))) (l11 : K.lookup f11 = some ⟨oc11, od11, .func (PySem.W.fnOf "_law_same_dict" "_law_same_dict" (defArgs s_same_dict) (defBody s_same_dict) (defScope s_same_dict) .none kV11 dc11 pm11 an11 cd11 ct11), sl11⟩) (c11 : PySem.W.codeIn K cd11 "_law_same_dict" = true) (k11 : PySem.W.keepIn K (.ref f11) = true)
    {f12 : Addr} {od12 an12 : Option Addr} {sl12 : Array (Option Value)} {oc12 kV12 dc12 pm12 cd12 ct12 : Value}
    (a12 : PySem.W.nsIn K mainGlobals "met" = some (some (.ref f12))) (l12 : K.lookup f12 = some ⟨oc12, od12, .func (PySem.W.fnOf "met" "met" (defArgs s_p_met) (defBody s_p_met) (defScope s_p_met) .none kV12 dc12 pm12 an12 cd12 ct12), sl12⟩) (c12 : PySem.W.codeIn K cd12 "met" = true) (k12 : PySem.W.keepIn K (.ref f12) = true)
    {f13 : Addr} {od13 an13 : Option Addr} {sl13 : Array (Option Value)} {oc13 kV13 dc13 pm13 cd13 ct13 : Value}
    (a13 : PySem.W.nsIn K mainGlobals "can_hold" = some (some (.ref f13))) (l13 : K.lookup f13 = some ⟨oc13, od13, .func (PySem.W.fnOf "can_hold" "can_hold" (defArgs s_p_can_hold) (defBody s_p_can_hold) (defScope s_p_can_hold) .none kV13 dc13 pm13 an13 cd13 ct13), sl13⟩) (c13 : PySem.W.codeIn K cd13 "can_hold" = true) (k13 : PySem.W.keepIn K (.ref f13) = true)
    {f14 : Addr} {od14 an14 : Option Addr} {sl14 : Array (Option Value)} {oc14 kV14 dc14 pm14 cd14 ct14 : Value}
    (a14 : PySem.W.nsIn K mainGlobals "without" = some (some (.ref f14))) (l14 : K.lookup f14 = some ⟨oc14, od14, .func (PySem.W.fnOf "without" "without" (defArgs s_p_without) (defBody s_p_without) (defScope s_p_without) .none kV14 dc14 pm14 an14 cd14 ct14), sl14⟩) (c14 : PySem.W.codeIn K cd14 "without" = true) (k14 : PySem.W.keepIn K (.ref f14) = true)
    {f15 : Addr} {od15 an15 : Option Addr} {sl15 : Array (Option Value)} {oc15 kV15 dc15 pm15 cd15 ct15 : Value}
    (a15 : PySem.W.nsIn K mainGlobals "narrowed" = some (some (.ref f15))) (l15 : K.lookup f15 = some ⟨oc15, od15, .func (PySem.W.fnOf "narrowed" "narrowed" (defArgs s_p_narrowed) (defBody s_p_narrowed) (defScope s_p_narrowed) .none kV15 dc15 pm15 an15 cd15 ct15), sl15⟩) (c15 : PySem.W.codeIn K cd15 "narrowed" = true) (k15 : PySem.W.keepIn K (.ref f15) = true)
    {f16 : Addr} {od16 an16 : Option Addr} {sl16 : Array (Option Value)} {oc16 kV16 dc16 pm16 cd16 ct16 : Value}
    (a16 : PySem.W.nsIn K mainGlobals "cut" = some (some (.ref f16))) (l16 : K.lookup f16 = some ⟨oc16, od16, .func (PySem.W.fnOf "cut" "cut" (defArgs s_p_cut) (defBody s_p_cut) (defScope s_p_cut) .none kV16 dc16 pm16 an16 cd16 ct16), sl16⟩) (c16 : PySem.W.codeIn K cd16 "cut" = true) (k16 : PySem.W.keepIn K (.ref f16) = true)
    {f17 : Addr} {od17 an17 : Option Addr} {sl17 : Array (Option Value)} {oc17 kV17 dc17 pm17 cd17 ct17 : Value}
    (a17 : PySem.W.nsIn K mainGlobals "minus" = some (some (.ref f17))) (l17 : K.lookup f17 = some ⟨oc17, od17, .func (PySem.W.fnOf "minus" "minus" (defArgs s_p_minus) (defBody s_p_minus) (defScope s_p_minus) .none kV17 dc17 pm17 an17 cd17 ct17), sl17⟩) (c17 : PySem.W.codeIn K cd17 "minus" = true) (k17 : PySem.W.keepIn K (.ref f17) = true)
    {f18 : Addr} {od18 an18 : Option Addr} {sl18 : Array (Option Value)} {oc18 kV18 dc18 pm18 cd18 ct18 : Value}
    (a18 : PySem.W.nsIn K mainGlobals "plus" = some (some (.ref f18))) (l18 : K.lookup f18 = some ⟨oc18, od18, .func (PySem.W.fnOf "plus" "plus" (defArgs s_p_plus) (defBody s_p_plus) (defScope s_p_plus) .none kV18 dc18 pm18 an18 cd18 ct18), sl18⟩) (c18 : PySem.W.codeIn K cd18 "plus" = true) (k18 : PySem.W.keepIn K (.ref f18) = true)
    {f19 : Addr} {od19 an19 : Option Addr} {sl19 : Array (Option Value)} {oc19 kV19 dc19 pm19 cd19 ct19 : Value}
    (a19 : PySem.W.nsIn K mainGlobals "rest" = some (some (.ref f19))) (l19 : K.lookup f19 = some ⟨oc19, od19, .func (PySem.W.fnOf "rest" "rest" (defArgs s_p_rest) (defBody s_p_rest) (defScope s_p_rest) .none kV19 dc19 pm19 an19 cd19 ct19), sl19⟩) (c19 : PySem.W.codeIn K cd19 "rest" = true) (k19 : PySem.W.keepIn K (.ref f19) = true)
    {f20 : Addr} {od20 an20 : Option Addr} {sl20 : Array (Option Value)} {oc20 kV20 dc20 pm20 cd20 ct20 : Value}
    (a20 : PySem.W.nsIn K mainGlobals "times" = some (some (.ref f20))) (l20 : K.lookup f20 = some ⟨oc20, od20, .func (PySem.W.fnOf "times" "times" (defArgs s_p_times) (defBody s_p_times) (defScope s_p_times) .none kV20 dc20 pm20 an20 cd20 ct20), sl20⟩) (c20 : PySem.W.codeIn K cd20 "times" = true) (k20 : PySem.W.keepIn K (.ref f20) = true)
    {f21 : Addr} {od21 an21 : Option Addr} {sl21 : Array (Option Value)} {oc21 kV21 dc21 pm21 cd21 ct21 : Value}
    (a21 : PySem.W.nsIn K mainGlobals "reach" = some (some (.ref f21))) (l21 : K.lookup f21 = some ⟨oc21, od21, .func (PySem.W.fnOf "reach" "reach" (defArgs s_p_reach) (defBody s_p_reach) (defScope s_p_reach) .none kV21 dc21 pm21 an21 cd21 ct21), sl21⟩) (c21 : PySem.W.codeIn K cd21 "reach" = true) (k21 : PySem.W.keepIn K (.ref f21) = true)
    {f22 : Addr} {od22 an22 : Option Addr} {sl22 : Array (Option Value)} {oc22 kV22 dc22 pm22 cd22 ct22 : Value}
    (a22 : PySem.W.nsIn K mainGlobals "kept" = some (some (.ref f22))) (l22 : K.lookup f22 = some ⟨oc22, od22, .func (PySem.W.fnOf "kept" "kept" (defArgs s_p_kept) (defBody s_p_kept) (defScope s_p_kept) .none kV22 dc22 pm22 an22 cd22 ct22), sl22⟩) (c22 : PySem.W.codeIn K cd22 "kept" = true) (k22 : PySem.W.keepIn K (.ref f22) = true)
    {f23 : Addr} {od23 an23 : Option Addr} {sl23 : Array (Option Value)} {oc23 kV23 dc23 pm23 cd23 ct23 : Value}
    (a23 : PySem.W.nsIn K mainGlobals "_law_good" = some (some (.ref f23))) (l23 : K.lookup f23 = some ⟨oc23, od23, .func (PySem.W.fnOf "_law_good" "_law_good" (defArgs s_good) (defBody s_good) (defScope s_good) .none kV23 dc23 pm23 an23 cd23 ct23), sl23⟩) (c23 : PySem.W.codeIn K cd23 "_law_good" = true) (k23 : PySem.W.keepIn K (.ref f23) = true)
    {f24 : Addr} {od24 an24 : Option Addr} {sl24 : Array (Option Value)} {oc24 kV24 dc24 pm24 cd24 ct24 : Value}
    (a24 : PySem.W.nsIn K mainGlobals "_law_one_of" = some (some (.ref f24))) (l24 : K.lookup f24 = some ⟨oc24, od24, .func (PySem.W.fnOf "_law_one_of" "_law_one_of" (defArgs s_one_of) (defBody s_one_of) (defScope s_one_of) .none kV24 dc24 pm24 an24 cd24 ct24), sl24⟩) (c24 : PySem.W.codeIn K cd24 "_law_one_of" = true) (k24 : PySem.W.keepIn K (.ref f24) = true)
    {f25 : Addr} {od25 an25 : Option Addr} {sl25 : Array (Option Value)} {oc25 kV25 dc25 pm25 cd25 ct25 : Value}
    (a25 : PySem.W.nsIn K mainGlobals "_law_held" = some (some (.ref f25))) (l25 : K.lookup f25 = some ⟨oc25, od25, .func (PySem.W.fnOf "_law_held" "_law_held" (defArgs s_held) (defBody s_held) (defScope s_held) .none kV25 dc25 pm25 an25 cd25 ct25), sl25⟩) (c25 : PySem.W.codeIn K cd25 "_law_held" = true) (k25 : PySem.W.keepIn K (.ref f25) = true)
    {f26 : Addr} {od26 an26 : Option Addr} {sl26 : Array (Option Value)} {oc26 kV26 dc26 pm26 cd26 ct26 : Value}
    (a26 : PySem.W.nsIn K mainGlobals "_law_stream" = some (some (.ref f26))) (l26 : K.lookup f26 = some ⟨oc26, od26, .func (PySem.W.fnOf "_law_stream" "_law_stream" (defArgs s_stream) (defBody s_stream) (defScope s_stream) .none kV26 dc26 pm26 an26 cd26 ct26), sl26⟩) (c26 : PySem.W.codeIn K cd26 "_law_stream" = true) (k26 : PySem.W.keepIn K (.ref f26) = true)
    {f27 : Addr} {od27 an27 : Option Addr} {sl27 : Array (Option Value)} {oc27 kV27 dc27 pm27 cd27 ct27 : Value}
    (a27 : PySem.W.nsIn K mainGlobals "_law_number" = some (some (.ref f27))) (l27 : K.lookup f27 = some ⟨oc27, od27, .func (PySem.W.fnOf "_law_number" "_law_number" (defArgs s_number) (defBody s_number) (defScope s_number) .none kV27 dc27 pm27 an27 cd27 ct27), sl27⟩) (c27 : PySem.W.codeIn K cd27 "_law_number" = true) (k27 : PySem.W.keepIn K (.ref f27) = true)
    {f28 : Addr} {od28 an28 : Option Addr} {sl28 : Array (Option Value)} {oc28 kV28 dc28 pm28 cd28 ct28 : Value}
    (a28 : PySem.W.nsIn K mainGlobals "_law_stretch" = some (some (.ref f28))) (l28 : K.lookup f28 = some ⟨oc28, od28, .func (PySem.W.fnOf "_law_stretch" "_law_stretch" (defArgs s_stretch) (defBody s_stretch) (defScope s_stretch) .none kV28 dc28 pm28 an28 cd28 ct28), sl28⟩) (c28 : PySem.W.codeIn K cd28 "_law_stretch" = true) (k28 : PySem.W.keepIn K (.ref f28) = true)
    {f29 : Addr} {od29 an29 : Option Addr} {sl29 : Array (Option Value)} {oc29 kV29 dc29 pm29 cd29 ct29 : Value}
    (a29 : PySem.W.nsIn K mainGlobals "_law_known" = some (some (.ref f29))) (l29 : K.lookup f29 = some ⟨oc29, od29, .func (PySem.W.fnOf "_law_known" "_law_known" (defArgs s_known) (defBody s_known) (defScope s_known) .none kV29 dc29 pm29 an29 cd29 ct29), sl29⟩) (c29 : PySem.W.codeIn K cd29 "_law_known" = true) (k29 : PySem.W.keepIn K (.ref f29) = true)
    {f30 : Addr} {od30 an30 : Option Addr} {sl30 : Array (Option Value)} {oc30 kV30 dc30 pm30 cd30 ct30 : Value}
    (a30 : PySem.W.nsIn K mainGlobals "_law_names" = some (some (.ref f30))) (l30 : K.lookup f30 = some ⟨oc30, od30, .func (PySem.W.fnOf "_law_names" "_law_names" (defArgs s_names) (defBody s_names) (defScope s_names) .none kV30 dc30 pm30 an30 cd30 ct30), sl30⟩) (c30 : PySem.W.codeIn K cd30 "_law_names" = true) (k30 : PySem.W.keepIn K (.ref f30) = true)
    {f31 : Addr} {od31 an31 : Option Addr} {sl31 : Array (Option Value)} {oc31 kV31 dc31 pm31 cd31 ct31 : Value}
    (a31 : PySem.W.nsIn K mainGlobals "_law_leaf" = some (some (.ref f31))) (l31 : K.lookup f31 = some ⟨oc31, od31, .func (PySem.W.fnOf "_law_leaf" "_law_leaf" (defArgs s_leaf) (defBody s_leaf) (defScope s_leaf) .none kV31 dc31 pm31 an31 cd31 ct31), sl31⟩) (c31 : PySem.W.codeIn K cd31 "_law_leaf" = true) (k31 : PySem.W.keepIn K (.ref f31) = true)
    {f32 : Addr} {od32 an32 : Option Addr} {sl32 : Array (Option Value)} {oc32 kV32 dc32 pm32 cd32 ct32 : Value}
    (a32 : PySem.W.nsIn K mainGlobals "_law_tree" = some (some (.ref f32))) (l32 : K.lookup f32 = some ⟨oc32, od32, .func (PySem.W.fnOf "_law_tree" "_law_tree" (defArgs s_tree) (defBody s_tree) (defScope s_tree) .none kV32 dc32 pm32 an32 cd32 ct32), sl32⟩) (c32 : PySem.W.codeIn K cd32 "_law_tree" = true) (k32 : PySem.W.keepIn K (.ref f32) = true)
    {f33 : Addr} {od33 an33 : Option Addr} {sl33 : Array (Option Value)} {oc33 kV33 dc33 pm33 cd33 ct33 : Value}
    (a33 : PySem.W.nsIn K mainGlobals "_law_expression" = some (some (.ref f33))) (l33 : K.lookup f33 = some ⟨oc33, od33, .func (PySem.W.fnOf "_law_expression" "_law_expression" (defArgs s_expression) (defBody s_expression) (defScope s_expression) .none kV33 dc33 pm33 an33 cd33 ct33), sl33⟩) (c33 : PySem.W.codeIn K cd33 "_law_expression" = true) (k33 : PySem.W.keepIn K (.ref f33) = true)
    {f34 : Addr} {od34 an34 : Option Addr} {sl34 : Array (Option Value)} {oc34 kV34 dc34 pm34 cd34 ct34 : Value}
    (a34 : PySem.W.nsIn K mainGlobals "_law_condition" = some (some (.ref f34))) (l34 : K.lookup f34 = some ⟨oc34, od34, .func (PySem.W.fnOf "_law_condition" "_law_condition" (defArgs s_condition) (defBody s_condition) (defScope s_condition) .none kV34 dc34 pm34 an34 cd34 ct34), sl34⟩) (c34 : PySem.W.codeIn K cd34 "_law_condition" = true) (k34 : PySem.W.keepIn K (.ref f34) = true)
    {f35 : Addr} {od35 an35 : Option Addr} {sl35 : Array (Option Value)} {oc35 kV35 dc35 pm35 cd35 ct35 : Value}
    (a35 : PySem.W.nsIn K mainGlobals "_law_told" = some (some (.ref f35))) (l35 : K.lookup f35 = some ⟨oc35, od35, .func (PySem.W.fnOf "_law_told" "_law_told" (defArgs s_told) (defBody s_told) (defScope s_told) .none kV35 dc35 pm35 an35 cd35 ct35), sl35⟩) (c35 : PySem.W.codeIn K cd35 "_law_told" = true) (k35 : PySem.W.keepIn K (.ref f35) = true)
    {f36 : Addr} {od36 an36 : Option Addr} {sl36 : Array (Option Value)} {oc36 kV36 dc36 pm36 cd36 ct36 : Value}
    (a36 : PySem.W.nsIn K mainGlobals "contrary" = some (some (.ref f36))) (l36 : K.lookup f36 = some ⟨oc36, od36, .func (PySem.W.fnOf "contrary" "contrary" (defArgs s_p_contrary) (defBody s_p_contrary) (defScope s_p_contrary) .none kV36 dc36 pm36 an36 cd36 ct36), sl36⟩) (c36 : PySem.W.codeIn K cd36 "contrary" = true) (k36 : PySem.W.keepIn K (.ref f36) = true)
    {f37 : Addr} {od37 an37 : Option Addr} {sl37 : Array (Option Value)} {oc37 kV37 dc37 pm37 cd37 ct37 : Value}
    (a37 : PySem.W.nsIn K mainGlobals "law" = some (some (.ref f37))) (l37 : K.lookup f37 = some ⟨oc37, od37, .func (PySem.W.fnOf "law" "law" (defArgs s_law) (defBody s_law) (defScope s_law) .none kV37 dc37 pm37 an37 cd37 ct37), sl37⟩) (c37 : PySem.W.codeIn K cd37 "law" = true) (k37 : PySem.W.keepIn K (.ref f37) = true)
    {t_LIMIT : Tok} (g_LIMIT : PySem.W.nsIn K mainGlobals "LIMIT" = some (some (.int 1000000 t_LIMIT)))
    (z_bool : PySem.W.nsIn K mainGlobals "bool" = some none)
    (z_dict : PySem.W.nsIn K mainGlobals "dict" = some none)
    (z_int : PySem.W.nsIn K mainGlobals "int" = some none)
    (z_isinstance : PySem.W.nsIn K mainGlobals "isinstance" = some none)
    (z_len : PySem.W.nsIn K mainGlobals "len" = some none)
    (z_max : PySem.W.nsIn K mainGlobals "max" = some none)
    (z_min : PySem.W.nsIn K mainGlobals "min" = some none)
    (z_range : PySem.W.nsIn K mainGlobals "range" = some none)
    (z_sorted : PySem.W.nsIn K mainGlobals "sorted" = some none)
    (z_str : PySem.W.nsIn K mainGlobals "str" = some none)
    (z_tuple : PySem.W.nsIn K mainGlobals "tuple" = some none)
    (z_zip : PySem.W.nsIn K mainGlobals "zip" = some none)
    : ∃ fd : FuncData, (∀ (s : Shared) (v : Value), BindsTo s fd ⟨[v], []⟩ [("_law_script", v)]) ∧ ∀ base : Heap, K.In base → base.Ns mainGlobals mg → FnOk l.prog w K mg base CX0 12 fa fd ["_law_script"] (spD K 1 m_law) := by
  have e := hfa.symm.trans (PySem.W.mg_of X G a37)
  cases e
  have Bt : Bts mg := ⟨PySem.W.mg_none_of X G z_bool, PySem.W.mg_none_of X G z_dict, PySem.W.mg_none_of X G z_int, PySem.W.mg_none_of X G z_isinstance, PySem.W.mg_none_of X G z_len, PySem.W.mg_none_of X G z_max, PySem.W.mg_none_of X G z_min, PySem.W.mg_none_of X G z_range, PySem.W.mg_none_of X G z_sorted, PySem.W.mg_none_of X G z_str, PySem.W.mg_none_of X G z_tuple, PySem.W.mg_none_of X G z_zip⟩
  have h_LIMIT : ∃ t, mg "LIMIT" = some (.int 1000000 t) := ⟨_, PySem.W.mg_of X G g_LIMIT⟩
  have F0 := fun_mk (st := s_cell_at) l0 c0 k0
  have b0 := F0.binds (ps := ["_law_script", "_law_k"]) fun _ _ _ _ _ _ us hl => match us, hl with | [_, _], _ => rfl
  have F1 := fun_mk (st := s_contrary) l1 c1 k1
  have b1 := F1.binds (ps := ["_law_told_here"]) fun _ _ _ _ _ _ us hl => match us, hl with | [_], _ => rfl
  have F2 := fun_mk (st := s_worth) l2 c2 k2
  have b2 := F2.binds (ps := ["_law_part", "_law_held_here"]) fun _ _ _ _ _ _ us hl => match us, hl with | [_, _], _ => rfl
  have F3 := fun_mk (st := s_holds) l3 c3 k3
  have b3 := F3.binds (ps := ["_law_told_here", "_law_held_here"]) fun _ _ _ _ _ _ us hl => match us, hl with | [_, _], _ => rfl
  have F4 := fun_mk (st := s_met) l4 c4 k4
  have b4 := F4.binds (ps := ["_law_one", "_law_low", "_law_high"]) fun _ _ _ _ _ _ us hl => match us, hl with | [_, _, _], _ => rfl
  have F5 := fun_mk (st := s_cut) l5 c5 k5
  have b5 := F5.binds (ps := ["_law_low", "_law_high"]) fun _ _ _ _ _ _ us hl => match us, hl with | [_, _], _ => rfl
  have F6 := fun_mk (st := s_reach) l6 c6 k6
  have b6 := F6.binds (ps := ["_law_part", "_law_known_here"]) fun _ _ _ _ _ _ us hl => match us, hl with | [_, _], _ => rfl
  have F7 := fun_mk (st := s_side) l7 c7 k7
  have b7 := F7.binds (ps := ["_law_sign", "_law_own", "_law_other", "_law_first"]) fun _ _ _ _ _ _ us hl => match us, hl with | [_, _, _, _], _ => rfl
  have F8 := fun_mk (st := s_kept) l8 c8 k8
  have b8 := F8.binds (ps := ["_law_told_here", "_law_known_here"]) fun _ _ _ _ _ _ us hl => match us, hl with | [_, _], _ => rfl
  have F9 := fun_mk (st := s_whole) l9 c9 k9
  have b9 := F9.binds (ps := ["_law_found"]) fun _ _ _ _ _ _ us hl => match us, hl with | [_], _ => rfl
  have F10 := fun_mk (st := s_is_stretch) l10 c10 k10
  have b10 := F10.binds (ps := ["_law_found"]) fun _ _ _ _ _ _ us hl => match us, hl with | [_], _ => rfl
  have F11 := fun_mk (st := s_same_dict) l11 c11 k11
  have b11 := F11.binds (ps := ["_law_found", "_law_due"]) fun _ _ _ _ _ _ us hl => match us, hl with | [_, _], _ => rfl
  have F12 := fun_mk (st := s_p_met) l12 c12 k12
  have b12 := F12.binds (ps := ["one", "other"]) fun _ _ _ _ _ _ us hl => match us, hl with | [_, _], _ => rfl
  have F13 := fun_mk (st := s_p_can_hold) l13 c13 k13
  have b13 := F13.binds (ps := ["sign", "left", "right"]) fun _ _ _ _ _ _ us hl => match us, hl with | [_, _, _], _ => rfl
  have F14 := fun_mk (st := s_p_without) l14 c14 k14
  have b14 := F14.binds (ps := ["one", "other"]) fun _ _ _ _ _ _ us hl => match us, hl with | [_, _], _ => rfl
  have F15 := fun_mk (st := s_p_narrowed) l15 c15 k15
  have b15 := F15.binds (ps := ["sign", "left", "right"]) fun _ _ _ _ _ _ us hl => match us, hl with | [_, _, _], _ => rfl
  have F16 := fun_mk (st := s_p_cut) l16 c16 k16
  have b16 := F16.binds (ps := ["low", "high"]) fun _ _ _ _ _ _ us hl => match us, hl with | [_, _], _ => rfl
  have F17 := fun_mk (st := s_p_minus) l17 c17 k17
  have b17 := F17.binds (ps := ["one", "other"]) fun _ _ _ _ _ _ us hl => match us, hl with | [_, _], _ => rfl
  have F18 := fun_mk (st := s_p_plus) l18 c18 k18
  have b18 := F18.binds (ps := ["one", "other"]) fun _ _ _ _ _ _ us hl => match us, hl with | [_, _], _ => rfl
  have F19 := fun_mk (st := s_p_rest) l19 c19 k19
  have b19 := F19.binds (ps := ["one", "by"]) fun _ _ _ _ _ _ us hl => match us, hl with | [_, _], _ => rfl
  have F20 := fun_mk (st := s_p_times) l20 c20 k20
  have b20 := F20.binds (ps := ["one", "other"]) fun _ _ _ _ _ _ us hl => match us, hl with | [_, _], _ => rfl
  have F21 := fun_mk (st := s_p_reach) l21 c21 k21
  have b21 := F21.binds (ps := ["expression", "known"]) fun _ _ _ _ _ _ us hl => match us, hl with | [_, _], _ => rfl
  have F22 := fun_mk (st := s_p_kept) l22 c22 k22
  have b22 := F22.binds (ps := ["condition", "known"]) fun _ _ _ _ _ _ us hl => match us, hl with | [_, _], _ => rfl
  have F23 := fun_mk (st := s_good) l23 c23 k23
  have b23 := F23.binds (ps := ["_law_told_here", "_law_known_here", "_law_held_here"]) fun _ _ _ _ _ _ us hl => match us, hl with | [_, _, _], _ => rfl
  have F24 := fun_mk (st := s_one_of) l24 c24 k24
  have b24 := F24.binds (ps := ["_law_stretch_here", "_law_x"]) fun _ _ _ _ _ _ us hl => match us, hl with | [_, _], _ => rfl
  have F25 := fun_mk (st := s_held) l25 c25 k25
  have b25 := F25.binds (ps := ["_law_known_here", "_law_x"]) fun _ _ _ _ _ _ us hl => match us, hl with | [_, _], _ => rfl
  have F26 := fun_mk (st := s_stream) l26 c26 k26
  have b26 := F26.binds (ps := ["_law_cell", "_law_many"]) fun _ _ _ _ _ _ us hl => match us, hl with | [_, _], _ => rfl
  have F27 := fun_mk (st := s_number) l27 c27 k27
  have b27 := F27.binds (ps := ["_law_x"]) fun _ _ _ _ _ _ us hl => match us, hl with | [_], _ => rfl
  have F28 := fun_mk (st := s_stretch) l28 c28 k28
  have b28 := F28.binds (ps := ["_law_x", "_law_y"]) fun _ _ _ _ _ _ us hl => match us, hl with | [_, _], _ => rfl
  have F29 := fun_mk (st := s_known) l29 c29 k29
  have b29 := F29.binds (ps := ["_law_xs", "_law_names_here"]) fun _ _ _ _ _ _ us hl => match us, hl with | [_, _], _ => rfl
  have F30 := fun_mk (st := s_names) l30 c30 k30
  have b30 := F30.binds (ps := ["_law_cell", "_law_many"]) fun _ _ _ _ _ _ us hl => match us, hl with | [_, _], _ => rfl
  have F31 := fun_mk (st := s_leaf) l31 c31 k31
  have b31 := F31.binds (ps := ["_law_x", "_law_names_here"]) fun _ _ _ _ _ _ us hl => match us, hl with | [_, _], _ => rfl
  have F32 := fun_mk (st := s_tree) l32 c32 k32
  have b32 := F32.binds (ps := ["_law_x", "_law_names_here", "_law_deep"]) fun _ _ _ _ _ _ us hl => match us, hl with | [_, _, _], _ => rfl
  have F33 := fun_mk (st := s_expression) l33 c33 k33
  have b33 := F33.binds (ps := ["_law_xs", "_law_names_here"]) fun _ _ _ _ _ _ us hl => match us, hl with | [_, _], _ => rfl
  have F34 := fun_mk (st := s_condition) l34 c34 k34
  have b34 := F34.binds (ps := ["_law_xs", "_law_names_here"]) fun _ _ _ _ _ _ us hl => match us, hl with | [_, _], _ => rfl
  have F35 := fun_mk (st := s_told) l35 c35 k35
  have b35 := F35.binds (ps := ["_law_script", "_law_names_here", "_law_known_here"]) fun _ _ _ _ _ _ us hl => match us, hl with | [_, _, _], _ => rfl
  have F36 := fun_mk (st := s_p_contrary) l36 c36 k36
  have b36 := F36.binds (ps := ["condition"]) fun _ _ _ _ _ _ us hl => match us, hl with | [_], _ => rfl
  have F37 := fun_mk (st := s_law) l37 c37 k37
  have b37 := F37.binds (ps := ["_law_script"]) fun _ _ _ _ _ _ us hl => match us, hl with | [_], _ => rfl
  refine ⟨PySem.W.fnOf "law" "law" (defArgs s_law) (defBody s_law) (defScope s_law) .none kV37 dc37 pm37 an37 cd37 ct37, fun s v => .of_eq rfl, fun base _ _ => ?_⟩
  have G_cell_at := ok_cell_at (P := l.prog) (w := w) (mg := mg) (base := base) F0 Bt 
  have D_cell_at := df_of F0 b0 (PySem.W.mg_of X G a0) G_cell_at
  have G_contrary := ok_contrary (P := l.prog) (w := w) (mg := mg) (base := base) F1 Bt 
  have D_contrary := df_of F1 b1 (PySem.W.mg_of X G a1) G_contrary
  have G_worth := ok_worth (P := l.prog) (w := w) (mg := mg) (base := base) F2 Bt  b2 (PySem.W.mg_of X G a2) 6
  have D_worth := df_of F2 b2 (PySem.W.mg_of X G a2) G_worth
  have G_holds := ok_holds (P := l.prog) (w := w) (mg := mg) (base := base) F3 Bt D_worth
  have D_holds := df_of F3 b3 (PySem.W.mg_of X G a3) G_holds
  have G_met := ok_met (P := l.prog) (w := w) (mg := mg) (base := base) F4 Bt 
  have D_met := df_of F4 b4 (PySem.W.mg_of X G a4) G_met
  have G_cut := ok_cut (P := l.prog) (w := w) (mg := mg) (base := base) F5 Bt 
  have D_cut := df_of F5 b5 (PySem.W.mg_of X G a5) G_cut
  have G_reach := ok_reach (P := l.prog) (w := w) (mg := mg) (base := base) F6 Bt D_cut b6 (PySem.W.mg_of X G a6) 6
  have D_reach := df_of F6 b6 (PySem.W.mg_of X G a6) G_reach
  have G_side := ok_side (P := l.prog) (w := w) (mg := mg) (base := base) F7 Bt D_met
  have D_side := df_of F7 b7 (PySem.W.mg_of X G a7) G_side
  have G_kept := ok_kept (P := l.prog) (w := w) (mg := mg) (base := base) F8 Bt D_met D_reach D_side
  have D_kept := df_of F8 b8 (PySem.W.mg_of X G a8) G_kept
  have G_whole := ok_whole (P := l.prog) (w := w) (mg := mg) (base := base) F9 Bt 
  have D_whole := df_of F9 b9 (PySem.W.mg_of X G a9) G_whole
  have G_is_stretch := ok_is_stretch (P := l.prog) (w := w) (mg := mg) (base := base) F10 Bt D_whole
  have D_is_stretch := df_of F10 b10 (PySem.W.mg_of X G a10) G_is_stretch
  have G_same_dict := ok_same_dict (P := l.prog) (w := w) (mg := mg) (base := base) F11 Bt D_is_stretch
  have D_same_dict := df_of F11 b11 (PySem.W.mg_of X G a11) G_same_dict
  have G_p_met := ok_p_met (P := l.prog) (w := w) (mg := mg) (base := base) F12 Bt 
  have D_p_met := df_of F12 b12 (PySem.W.mg_of X G a12) G_p_met
  have G_p_can_hold := ok_p_can_hold (P := l.prog) (w := w) (mg := mg) (base := base) F13 Bt D_p_met
  have D_p_can_hold := df_of F13 b13 (PySem.W.mg_of X G a13) G_p_can_hold
  have G_p_without := ok_p_without (P := l.prog) (w := w) (mg := mg) (base := base) F14 Bt 
  have D_p_without := df_of F14 b14 (PySem.W.mg_of X G a14) G_p_without
  have G_p_narrowed := ok_p_narrowed (P := l.prog) (w := w) (mg := mg) (base := base) F15 Bt D_p_without
  have D_p_narrowed := df_of F15 b15 (PySem.W.mg_of X G a15) G_p_narrowed
  have G_p_cut := ok_p_cut (P := l.prog) (w := w) (mg := mg) (base := base) F16 Bt D_p_met h_LIMIT
  have D_p_cut := df_of F16 b16 (PySem.W.mg_of X G a16) G_p_cut
  have G_p_minus := ok_p_minus (P := l.prog) (w := w) (mg := mg) (base := base) F17 Bt D_p_cut
  have D_p_minus := df_of F17 b17 (PySem.W.mg_of X G a17) G_p_minus
  have G_p_plus := ok_p_plus (P := l.prog) (w := w) (mg := mg) (base := base) F18 Bt D_p_cut
  have D_p_plus := df_of F18 b18 (PySem.W.mg_of X G a18) G_p_plus
  have G_p_rest := ok_p_rest (P := l.prog) (w := w) (mg := mg) (base := base) F19 Bt 
  have D_p_rest := df_of F19 b19 (PySem.W.mg_of X G a19) G_p_rest
  have G_p_times := ok_p_times (P := l.prog) (w := w) (mg := mg) (base := base) F20 Bt D_p_cut
  have D_p_times := df_of F20 b20 (PySem.W.mg_of X G a20) G_p_times
  have G_p_reach := ok_p_reach (P := l.prog) (w := w) (mg := mg) (base := base) F21 Bt D_p_minus D_p_plus D_p_rest D_p_times b21 (PySem.W.mg_of X G a21) 6
  have D_p_reach := df_of F21 b21 (PySem.W.mg_of X G a21) G_p_reach
  have G_p_kept := ok_p_kept (P := l.prog) (w := w) (mg := mg) (base := base) F22 Bt D_p_can_hold D_p_met D_p_narrowed D_p_reach
  have D_p_kept := dfF_of F22 b22 (PySem.W.mg_of X G a22) G_p_kept
  have G_good := ok_good (P := l.prog) (w := w) (mg := mg) (base := base) F23 Bt D_holds D_kept D_same_dict D_p_kept
  have D_good := df_of F23 b23 (PySem.W.mg_of X G a23) G_good
  have G_one_of := ok_one_of (P := l.prog) (w := w) (mg := mg) (base := base) F24 Bt 
  have D_one_of := df_of F24 b24 (PySem.W.mg_of X G a24) G_one_of
  have G_held := ok_held (P := l.prog) (w := w) (mg := mg) (base := base) F25 Bt D_one_of
  have D_held := df_of F25 b25 (PySem.W.mg_of X G a25) G_held
  have G_stream := ok_stream (P := l.prog) (w := w) (mg := mg) (base := base) F26 Bt 
  have D_stream := df_of F26 b26 (PySem.W.mg_of X G a26) G_stream
  have G_number := ok_number (P := l.prog) (w := w) (mg := mg) (base := base) F27 Bt 
  have D_number := df_of F27 b27 (PySem.W.mg_of X G a27) G_number
  have G_stretch := ok_stretch (P := l.prog) (w := w) (mg := mg) (base := base) F28 Bt D_number
  have D_stretch := df_of F28 b28 (PySem.W.mg_of X G a28) G_stretch
  have G_known := ok_known (P := l.prog) (w := w) (mg := mg) (base := base) F29 Bt D_stream D_stretch
  have D_known := df_of F29 b29 (PySem.W.mg_of X G a29) G_known
  have G_names := ok_names (P := l.prog) (w := w) (mg := mg) (base := base) F30 Bt 
  have D_names := df_of F30 b30 (PySem.W.mg_of X G a30) G_names
  have G_leaf := ok_leaf (P := l.prog) (w := w) (mg := mg) (base := base) F31 Bt D_number
  have D_leaf := df_of F31 b31 (PySem.W.mg_of X G a31) G_leaf
  have G_tree := ok_tree (P := l.prog) (w := w) (mg := mg) (base := base) F32 Bt D_leaf D_stream b32 (PySem.W.mg_of X G a32) 6
  have D_tree := df_of F32 b32 (PySem.W.mg_of X G a32) G_tree
  have G_expression := ok_expression (P := l.prog) (w := w) (mg := mg) (base := base) F33 Bt D_tree
  have D_expression := df_of F33 b33 (PySem.W.mg_of X G a33) G_expression
  have G_condition := ok_condition (P := l.prog) (w := w) (mg := mg) (base := base) F34 Bt D_expression D_leaf
  have D_condition := df_of F34 b34 (PySem.W.mg_of X G a34) G_condition
  have G_told := ok_told (P := l.prog) (w := w) (mg := mg) (base := base) F35 Bt D_cell_at D_condition D_stream
  have D_told := df_of F35 b35 (PySem.W.mg_of X G a35) G_told
  have G_p_contrary := ok_p_contrary (P := l.prog) (w := w) (mg := mg) (base := base) F36 Bt 
  have D_p_contrary := df_of F36 b36 (PySem.W.mg_of X G a36) G_p_contrary
  have G_law := ok_law (P := l.prog) (w := w) (mg := mg) (base := base) F37 Bt D_cell_at D_contrary D_good D_held D_holds D_known D_names D_stream D_told D_p_contrary
  exact G_law
theorem walk {l : PySem.W.OpenLaw} {q : Program} {loose : List Str} {XP : (Str → Option Value) → Heap → Prop} {YP : World → Heap → Prop} {d : DefRec} {K : Params → PySem.W.Frag} (hn : l.most = some 63) (hdf : d.params.defaults = [])
    (hY : ∀ (w : World) (h : Heap), YP w h → (K w.params).In h)
    (F : ∀ (w : World) (mg : Str → Option Value) (fa : Addr) (h : Heap), (K w.params).In h → h.Ns mainGlobals mg → mg d.name = some (.ref fa) →
      ∃ fd : FuncData, (∀ (s : Shared) (u : Value), BindsTo s fd ⟨[u], []⟩ [("_law_script", u)]) ∧ ∀ base : Heap, (K w.params).In base → base.Ns mainGlobals mg → FnOk l.prog w (K w.params) mg base CX0 12 fa fd ["_law_script"] (spD (K w.params) 1 m_law)) :
    PySem.W.WalkO q loose XP YP l.row.toRowW d [] (fun f vs => PySem.call f vs) :=
  L2.walk_of (n := 63) (k := 12) (x := "_law_script") (CX := fun _ => CX0) (sp := fun w => spD (K w.params) 1 m_law) hn (by decide) hdf ⟨rfl, by decide, by decide⟩ hY F (fun _ _ a ns hl _ hS => law_sp hS (law_true ns hl)) fun _ _ _ _ _ z => z
end K09
open PySem PySem.W PyProof.Rows
set_option maxRecDepth 100000 in
set_option maxHeartbeats 0 in
theorem PySem.Challenge.cw_boundwatch_k09_what_conditions_keep_holds : PySem.Challenge.rw_boundwatch_k09_what_conditions_keep.Holds := by
  w_on; o_law; k_head; (case hw => w_witness2)
  k_fill
  refine K09.walk (l := PySem.Challenge.rw_boundwatch_k09_what_conditions_keep) rfl rfl (fun w h Y => PySem.W.kIn_of Y) ?F
  case F =>
    intro w mg fa h KX G hmg
    refine' K09.all_mk KX G hmg ?a0 ?l0 ?c0 ?k0 ?a1 ?l1 ?c1 ?k1 ?a2 ?l2 ?c2 ?k2 ?a3 ?l3 ?c3 ?k3 ?a4 ?l4 ?c4 ?k4 ?a5 ?l5 ?c5 ?k5 ?a6 ?l6 ?c6 ?k6 ?a7 ?l7 ?c7 ?k7 ?a8 ?l8 ?c8 ?k8 ?a9 ?l9 ?c9 ?k9 ?a10 ?l10 ?c10 ?k10 ?a11 ?l11 ?c11 ?k11 ?a12 ?l12 ?c12 ?k12 ?a13 ?l13 ?c13 ?k13 ?a14 ?l14 ?c14 ?k14 ?a15 ?l15 ?c15 ?k15 ?a16 ?l16 ?c16 ?k16 ?a17 ?l17 ?c17 ?k17 ?a18 ?l18 ?c18 ?k18 ?a19 ?l19 ?c19 ?k19 ?a20 ?l20 ?c20 ?k20 ?a21 ?l21 ?c21 ?k21 ?a22 ?l22 ?c22 ?k22 ?a23 ?l23 ?c23 ?k23 ?a24 ?l24 ?c24 ?k24 ?a25 ?l25 ?c25 ?k25 ?a26 ?l26 ?c26 ?k26 ?a27 ?l27 ?c27 ?k27 ?a28 ?l28 ?c28 ?k28 ?a29 ?l29 ?c29 ?k29 ?a30 ?l30 ?c30 ?k30 ?a31 ?l31 ?c31 ?k31 ?a32 ?l32 ?c32 ?k32 ?a33 ?l33 ?c33 ?k33 ?a34 ?l34 ?c34 ?k34 ?a35 ?l35 ?c35 ?k35 ?a36 ?l36 ?c36 ?k36 ?a37 ?l37 ?c37 ?k37 ?g_LIMIT ?z_bool ?z_dict ?z_int ?z_isinstance ?z_len ?z_max ?z_min ?z_range ?z_sorted ?z_str ?z_tuple ?z_zip
    (case a0 => k_is)
    (case l0 => k_is)
    (case c0 => k_is)
    (case k0 => k_is)
    (case a1 => k_is)
    (case l1 => k_is)
    (case c1 => k_is)
    (case k1 => k_is)
    (case a2 => k_is)
    (case l2 => k_is)
    (case c2 => k_is)
    (case k2 => k_is)
    (case a3 => k_is)
    (case l3 => k_is)
    (case c3 => k_is)
    (case k3 => k_is)
    (case a4 => k_is)
    (case l4 => k_is)
    (case c4 => k_is)
    (case k4 => k_is)
    (case a5 => k_is)
    (case l5 => k_is)
    (case c5 => k_is)
    (case k5 => k_is)
    (case a6 => k_is)
    (case l6 => k_is)
    (case c6 => k_is)
    (case k6 => k_is)
    (case a7 => k_is)
    (case l7 => k_is)
    (case c7 => k_is)
    (case k7 => k_is)
    (case a8 => k_is)
    (case l8 => k_is)
    (case c8 => k_is)
    (case k8 => k_is)
    (case a9 => k_is)
    (case l9 => k_is)
    (case c9 => k_is)
    (case k9 => k_is)
    (case a10 => k_is)
    (case l10 => k_is)
    (case c10 => k_is)
    (case k10 => k_is)
    (case a11 => k_is)
    (case l11 => k_is)
    (case c11 => k_is)
    (case k11 => k_is)
    (case a12 => k_is)
    (case l12 => k_is)
    (case c12 => k_is)
    (case k12 => k_is)
    (case a13 => k_is)
    (case l13 => k_is)
    (case c13 => k_is)
    (case k13 => k_is)
    (case a14 => k_is)
    (case l14 => k_is)
    (case c14 => k_is)
    (case k14 => k_is)
    (case a15 => k_is)
    (case l15 => k_is)
    (case c15 => k_is)
    (case k15 => k_is)
    (case a16 => k_is)
    (case l16 => k_is)
    (case c16 => k_is)
    (case k16 => k_is)
    (case a17 => k_is)
    (case l17 => k_is)
    (case c17 => k_is)
    (case k17 => k_is)
    (case a18 => k_is)
    (case l18 => k_is)
    (case c18 => k_is)
    (case k18 => k_is)
    (case a19 => k_is)
    (case l19 => k_is)
    (case c19 => k_is)
    (case k19 => k_is)
    (case a20 => k_is)
    (case l20 => k_is)
    (case c20 => k_is)
    (case k20 => k_is)
    (case a21 => k_is)
    (case l21 => k_is)
    (case c21 => k_is)
    (case k21 => k_is)
    (case a22 => k_is)
    (case l22 => k_is)
    (case c22 => k_is)
    (case k22 => k_is)
    (case a23 => k_is)
    (case l23 => k_is)
    (case c23 => k_is)
    (case k23 => k_is)
    (case a24 => k_is)
    (case l24 => k_is)
    (case c24 => k_is)
    (case k24 => k_is)
    (case a25 => k_is)
    (case l25 => k_is)
    (case c25 => k_is)
    (case k25 => k_is)
    (case a26 => k_is)
    (case l26 => k_is)
    (case c26 => k_is)
    (case k26 => k_is)
    (case a27 => k_is)
    (case l27 => k_is)
    (case c27 => k_is)
    (case k27 => k_is)
    (case a28 => k_is)
    (case l28 => k_is)
    (case c28 => k_is)
    (case k28 => k_is)
    (case a29 => k_is)
    (case l29 => k_is)
    (case c29 => k_is)
    (case k29 => k_is)
    (case a30 => k_is)
    (case l30 => k_is)
    (case c30 => k_is)
    (case k30 => k_is)
    (case a31 => k_is)
    (case l31 => k_is)
    (case c31 => k_is)
    (case k31 => k_is)
    (case a32 => k_is)
    (case l32 => k_is)
    (case c32 => k_is)
    (case k32 => k_is)
    (case a33 => k_is)
    (case l33 => k_is)
    (case c33 => k_is)
    (case k33 => k_is)
    (case a34 => k_is)
    (case l34 => k_is)
    (case c34 => k_is)
    (case k34 => k_is)
    (case a35 => k_is)
    (case l35 => k_is)
    (case c35 => k_is)
    (case k35 => k_is)
    (case a36 => k_is)
    (case l36 => k_is)
    (case c36 => k_is)
    (case k36 => k_is)
    (case a37 => k_is)
    (case l37 => k_is)
    (case c37 => k_is)
    (case k37 => k_is)
    (case g_LIMIT => k_is)
    (case z_bool => k_is)
    (case z_dict => k_is)
    (case z_int => k_is)
    (case z_isinstance => k_is)
    (case z_len => k_is)
    (case z_max => k_is)
    (case z_min => k_is)
    (case z_range => k_is)
    (case z_sorted => k_is)
    (case z_str => k_is)
    (case z_tuple => k_is)
    (case z_zip => k_is)
#print axioms PySem.Challenge.cw_boundwatch_k09_what_conditions_keep_holds
