import PyProof.Rows.All
import Wide.All
import OpenK.AllK
import Wide.FinOn
import Open.SpecLaws
import KE.OsGo
import HandS.ForSpec
import HandS.Comp
import HandS.Dict
import HandS.Iter
import HandS.Deep
import HandS.Conv
import HandS.Flt
import PySem.Challenge.RW_impliedparts_s01_answers
set_option Elab.async false
set_option linter.all false
set_option maxRecDepth 100000
set_option maxHeartbeats 2000000
namespace Im
open PySem PySem.Spec PyProof.Rows L2
/-! ### heaps: what is seen where some addresses are hidden -/
theorem same_new {H : Hp} {p : Addr} {o : HO} (h : H p = none) : Same H (upd H p o) := fun a u e => by
  rw [upd_ne (ne_of_none e h)]
  exact e
theorem same_mut {H H' : Hp} {p : Addr} {o : HO} (e : Same H H') (h : H p = none) : Same H (upd H' p o) := fun a u ha => by
  rw [upd_ne (ne_of_none ha h)]
  exact e a u ha
open Classical in
noncomputable def hid (M : Addr → Prop) (H : Hp) : Hp := fun a => if M a then none else H a
section
variable {M M' : Addr → Prop} {H H' G G' : Hp} {a l p : Addr} {o : HO}
theorem hid_no (h : ¬ M a) : hid M H a = H a := by
  unfold hid
  rw [if_neg h]
theorem hid_yes (h : M a) : hid M H a = none := by
  unfold hid
  rw [if_pos h]
theorem hid_some (h : hid M H a = some o) : ¬ M a ∧ H a = some o := by
  by_cases q : M a
  · rw [hid_yes q] at h
    cases h
  · rw [hid_no q] at h
    exact ⟨q, h⟩
theorem hid_sub : Same (hid M H) H := fun a o h => (hid_some h).2
theorem hid_mono (e : Same H H') : Same (hid M H) (hid M H') := fun a o h => by
  obtain ⟨h1, h2⟩ := hid_some h
  rw [hid_no h1]
  exact e a o h2
def Tr (M : Addr → Prop) (H : Hp) : Prop := ∀ a, M a → H a ≠ none
theorem Tr.mono (t : Tr M H) (e : Same H H') : Tr M H' := fun a m z => t a m (e.free z)
theorem Tr.new (t : Tr M H) (h : H p = none) : ¬ M p := fun m => t p m h
def also (M : Addr → Prop) (l : Addr) : Addr → Prop := fun a => M a ∨ a = l
theorem also_sub : Same (hid (also M l) H) (hid M H) := fun a o h => by
  obtain ⟨h1, h2⟩ := hid_some h
  rw [hid_no fun z => h1 (.inl z)]
  exact h2
theorem hid_upd (h : M a) : hid M (upd H a o) = hid M H := by
  funext b
  by_cases q : M b
  · rw [hid_yes q, hid_yes q]
  · rw [hid_no q, hid_no q, upd_ne fun z => q (by rw [z]; exact h)]
theorem also_self : also M l l := .inr rfl
/-- a new object that is hidden at once: all else is seen as before -/
theorem also_new (h : H l = none) : hid (also M l) (upd H l o) = hid M H := by
  funext b
  by_cases q : b = l
  · rw [q, hid_yes also_self]
    by_cases m : M l
    · rw [hid_yes m]
    · rw [hid_no m, h]
  · by_cases m : M b
    · rw [hid_yes (.inl m), hid_yes m]
    · rw [hid_no fun z => z.elim m q, hid_no m, upd_ne q]
theorem Tr.also (t : Tr M H) (h : H l ≠ none) : Tr (also M l) H := fun a m => m.elim (t a) fun z => by rw [z]; exact h
theorem Tr.upd (t : Tr M H) : Tr M (upd H l o) := fun a m z => by
  by_cases q : a = l
  · rw [q, upd_same] at z
    cases z
  · rw [upd_ne q] at z
    exact t a m z
structure Le (M : Addr → Prop) (H : Hp) (M' : Addr → Prop) (H' : Hp) : Prop where
  same : Same (hid M H) (hid M' H')
  tr : Tr M' H'
theorem Le.of (t : Tr M H) (e : Same H H') : Le M H M H' := ⟨hid_mono e, t.mono e⟩
theorem Le.trans {M'' : Addr → Prop} {H'' : Hp} (a : Le M H M' H') (b : Le M' H' M'' H'') : Le M H M'' H'' := ⟨a.same.trans b.same, b.tr⟩
end
/-! ### data -/
mutual
inductive Da (H : Hp) : V → PyData → Prop
  | non : Da H .non .none
  | bl (b : Bool) : Da H (.bl b) (.bool b)
  | int (i : Int) : Da H (.int i) (.int i)
  | lst {a : Addr} {xs : List V} {ds : List PyData} : H a = some (.lst xs) → DaAll H xs ds → Da H (.ref a) (.list ds)
  | tup {a : Addr} {xs : List V} {ds : List PyData} : H a = some (.tup xs) → DaAll H xs ds → Da H (.ref a) (.tuple ds)
inductive DaAll (H : Hp) : List V → List PyData → Prop
  | nil : DaAll H [] []
  | cons {v : V} {vs : List V} {d : PyData} {ds : List PyData} : Da H v d → DaAll H vs ds → DaAll H (v :: vs) (d :: ds)
end
section
variable {H H' : Hp} {K : PySem.W.Frag}
mutual
theorem Da.mono (e : Same H H') : ∀ (d : PyData) (v : V), Da H v d → Da H' v d
  | .none, _, h => by cases h; exact .non
  | .bool _, _, h => by cases h; exact .bl _
  | .int _, _, h => by cases h; exact .int _
  | .str _, _, h => by cases h
  | .list ds, _, h => by
    cases h with
    | lst h1 h2 => exact .lst (e _ _ h1) (DaAll.mono e ds _ h2)
  | .tuple ds, _, h => by
    cases h with
    | tup h1 h2 => exact .tup (e _ _ h1) (DaAll.mono e ds _ h2)
  | .dict _, _, h => by cases h
theorem DaAll.mono (e : Same H H') : ∀ (ds : List PyData) (vs : List V), DaAll H vs ds → DaAll H' vs ds
  | [], _, h => by cases h; exact .nil
  | d :: ds, _, h => by
    cases h with
    | cons h1 h2 => exact .cons (Da.mono e d _ h1) (DaAll.mono e ds _ h2)
end
mutual
theorem Da.dp : ∀ (d : PyData) (v : V), Da H v d → Dp K H v d
  | .none, _, h => by cases h; exact .non
  | .bool _, _, h => by cases h; exact .bl _
  | .int _, _, h => by cases h; exact .int _
  | .str _, _, h => by cases h
  | .list ds, _, h => by
    cases h with
    | lst h1 h2 => exact .lst (SqL.of h1) (DaAll.dp ds _ h2)
  | .tuple ds, _, h => by
    cases h with
    | tup h1 h2 => exact .tup (SqT.of h1) (DaAll.dp ds _ h2)
  | .dict _, _, h => by cases h
theorem DaAll.dp : ∀ (ds : List PyData) (vs : List V), DaAll H vs ds → DpAll K H vs ds
  | [], _, h => by cases h; exact .nil
  | d :: ds, _, h => by
    cases h with
    | cons h1 h2 => exact .cons (Da.dp d _ h1) (DaAll.dp ds _ h2)
end
theorem DaAll.length : ∀ {vs : List V} {ds : List PyData}, DaAll H vs ds → vs.length = ds.length
  | [], [], _ => rfl
  | v :: vs, d :: ds, h => by
    cases h with
    | cons _ h2 => rw [List.length_cons, List.length_cons, DaAll.length h2]
theorem DaAll.get : ∀ {vs : List V} {ds : List PyData} {i : Nat} {v : V}, DaAll H vs ds → vs[i]? = some v → ∃ d, ds[i]? = some d ∧ Da H v d
  | _, _, _, _, .nil, e => by simp at e
  | _, _, 0, _, .cons r _, e => by
    obtain rfl := Option.some.inj e
    exact ⟨_, rfl, r⟩
  | _, _, i + 1, v, .cons _ t, e => DaAll.get (i := i) t e
theorem DaAll.at : ∀ {vs : List V} {ds : List PyData} {i : Nat} {d : PyData}, DaAll H vs ds → ds[i]? = some d → ∃ v, vs[i]? = some v ∧ Da H v d
  | _, _, _, _, .nil, e => by simp at e
  | _, _, 0, _, .cons r _, e => by
    obtain rfl := Option.some.inj e
    exact ⟨_, rfl, r⟩
  | _, _, i + 1, v, .cons _ t, e => DaAll.at (i := i) t e
theorem DaAll.append : ∀ {vs ws : List V} {ds es : List PyData}, DaAll H vs ds → DaAll H ws es → DaAll H (vs ++ ws) (ds ++ es)
  | _, _, _, _, .nil, s => s
  | _, _, _, _, .cons r t, s => .cons r (DaAll.append t s)
theorem DaAll.set {v : V} {d : PyData} (r : Da H v d) : ∀ {vs : List V} {ds : List PyData} (i : Nat), DaAll H vs ds → DaAll H (vs.set i v) (ds.set i d)
  | _, _, _, .nil => .nil
  | _, _, 0, .cons _ t => .cons r t
  | _, _, i + 1, .cons q t => .cons q (DaAll.set r i t)
theorem DaAll.drop : ∀ {vs : List V} {ds : List PyData} (n : Nat), DaAll H vs ds → DaAll H (vs.drop n) (ds.drop n)
  | _, _, 0, r => r
  | _, _, _ + 1, .nil => .nil
  | _, _, n + 1, .cons _ t => DaAll.drop n t
theorem DaAll.take : ∀ {vs : List V} {ds : List PyData} (n : Nat), DaAll H vs ds → DaAll H (vs.take n) (ds.take n)
  | _, _, 0, _ => .nil
  | _, _, _ + 1, .nil => .nil
  | _, _, n + 1, .cons r t => .cons r (DaAll.take n t)
end
/-! ### what is told by data -/
class Enc (α : Type) where
  enc : α → PyData
  dep : Nat
  lay : ∀ a, (enc a).canLay0 = true
  deep : ∀ a, (enc a).depth ≤ dep
  inj : ∀ a b, PyData.eqv (enc a) (enc b) = true ↔ a = b

section
variable {α β : Type} [Enc α] [Enc β]
theorem lay_map : ∀ l : List α, PyData.canLayAll0 (l.map Enc.enc) = true
  | [] => by simp [PyData.canLayAll0]
  | a :: l => by simp [PyData.canLayAll0, Enc.lay a, lay_map l]
theorem deep_map : ∀ l : List α, PyData.depthAll (l.map Enc.enc) ≤ Enc.dep α
  | [] => by simp [PyData.depthAll]
  | a :: l => by
    have h1 := deep_map l
    have h2 := Enc.deep a
    simp only [List.map_cons, PyData.depthAll]
    omega
theorem inj_map : ∀ l k : List α, PyData.eqvAll (l.map Enc.enc) (k.map Enc.enc) = true ↔ l = k
  | [], [] => by simp [PyData.eqvAll]
  | [], _ :: _ => by simp [PyData.eqvAll]
  | _ :: _, [] => by simp [PyData.eqvAll]
  | a :: l, b :: k => by
    simp only [List.map_cons, PyData.eqvAll, Bool.and_eq_true, Enc.inj, inj_map l k, List.cons.injEq]
end
instance : Enc Nat where
  enc n := .int n
  dep := 0
  lay _ := by simp [PyData.canLay0]
  deep _ := by simp [PyData.depth]
  inj a b := by simp only [PyData.eqv, beq_iff_eq]; omega
instance : Enc Int where
  enc n := .int n
  dep := 0
  lay _ := by simp [PyData.canLay0]
  deep _ := by simp [PyData.depth]
  inj a b := by simp only [PyData.eqv, beq_iff_eq]
instance : Enc Bool where
  enc n := .bool n
  dep := 0
  lay _ := by simp [PyData.canLay0]
  deep _ := by simp [PyData.depth]
  inj a b := by simp only [PyData.eqv, beq_iff_eq]
instance {α : Type} [Enc α] : Enc (List α) where
  enc l := .list (l.map Enc.enc)
  dep := Enc.dep α + 1
  lay l := by simp only [PyData.canLay0]; exact lay_map l
  deep l := by
    have := deep_map l
    simp only [PyData.depth]
    omega
  inj a b := by simp only [PyData.eqv]; exact inj_map a b
instance {α β : Type} [Enc α] [Enc β] : Enc (α × β) where
  enc p := .tuple [Enc.enc p.1, Enc.enc p.2]
  dep := max (Enc.dep α) (Enc.dep β) + 1
  lay p := by simp [PyData.canLay0, PyData.canLayAll0, Enc.lay]
  deep p := by
    have h1 := Enc.deep p.1
    have h2 := Enc.deep p.2
    simp only [PyData.depth, PyData.depthAll]
    omega
  inj a b := by
    obtain ⟨a1, a2⟩ := a
    obtain ⟨b1, b2⟩ := b
    simp only [PyData.eqv, PyData.eqvAll, Bool.and_true, Bool.and_eq_true, Enc.inj, Prod.mk.injEq]
/-- three whole numbers, as a tuple of three -/
structure T3 where
  a : Nat
  f : Nat
  b : Nat
  deriving DecidableEq
instance : Enc T3 where
  enc t := .tuple [Enc.enc t.a, Enc.enc t.f, Enc.enc t.b]
  dep := 1
  lay t := by simp [PyData.canLay0, PyData.canLayAll0, Enc.lay]
  deep t := by
    have h1 := Enc.deep t.a
    have h2 := Enc.deep t.f
    have h3 := Enc.deep t.b
    have z : Enc.dep Nat = 0 := rfl
    simp only [PyData.depth, PyData.depthAll]
    omega
  inj a b := by
    obtain ⟨a1, a2, a3⟩ := a
    obtain ⟨b1, b2, b3⟩ := b
    simp only [PyData.eqv, PyData.eqvAll, Bool.and_true, Bool.and_eq_true, Enc.inj, T3.mk.injEq]
/-- v stands for x -/
def Is {α : Type} [Enc α] (H : Hp) (v : V) (x : α) : Prop := Da H v (Enc.enc x)
def IsL {α : Type} [Enc α] (H : Hp) (vs : List V) (l : List α) : Prop := DaAll H vs (l.map Enc.enc)
section
variable {α β : Type} [Enc α] [Enc β] {H H' : Hp} {v : V} {x : α} {l : List α} {vs : List V} {K : PySem.W.Frag}
theorem Is.mono (e : Same H H') (h : Is H v x) : Is H' v x := Da.mono e _ _ h
theorem IsL.mono (e : Same H H') (h : IsL H vs l) : IsL H' vs l := DaAll.mono e _ _ h
theorem Is.dp (h : Is H v x) : Dp K H v (Enc.enc x) := Da.dp _ _ h
theorem Is.nat {n : Nat} (h : Is H v n) : v = .int n := by cases h; rfl
theorem Is.int {n : Int} (h : Is H v n) : v = .int n := by cases h; rfl
theorem Is.bool {b : Bool} (h : Is H v b) : v = .bl b := by cases h; rfl
theorem is_nat {n : Nat} : Is H (.int n) n := Da.int _
theorem is_int {n : Int} : Is H (.int n) n := Da.int _
theorem is_bool {b : Bool} : Is H (.bl b) b := Da.bl _
theorem Is.list (h : Is H v l) : ∃ a vs, v = .ref a ∧ H a = some (.lst vs) ∧ IsL H vs l := by
  cases h with
  | lst h1 h2 => exact ⟨_, _, rfl, h1, h2⟩
theorem is_list {a : Addr} (h1 : H a = some (.lst vs)) (h2 : IsL H vs l) : Is H (.ref a) l := Da.lst h1 h2
theorem Is.pair {y : β} (h : Is H v (x, y)) : ∃ a u w, v = .ref a ∧ H a = some (.tup [u, w]) ∧ Is H u x ∧ Is H w y := by
  cases h with
  | tup h1 h2 =>
    cases h2 with
    | cons q1 q2 =>
      cases q2 with
      | cons q3 q4 =>
        cases q4
        exact ⟨_, _, _, rfl, h1, q1, q3⟩
theorem is_pair {a : Addr} {u w : V} {y : β} (h : H a = some (.tup [u, w])) (h1 : Is H u x) (h2 : Is H w y) : Is H (.ref a) (x, y) := Da.tup h (.cons h1 (.cons h2 .nil))
theorem Is.t3 {t : T3} (h : Is H v t) : ∃ a, v = .ref a ∧ H a = some (.tup [.int t.a, .int t.f, .int t.b]) := by
  cases h with
  | tup h1 h2 =>
    cases h2 with
    | cons q1 q2 =>
      cases q2 with
      | cons q3 q4 =>
        cases q4 with
        | cons q5 q6 =>
          cases q6
          cases q1
          cases q3
          cases q5
          exact ⟨_, rfl, h1⟩
theorem is_t3 {a : Addr} {t : T3} (h : H a = some (.tup [.int t.a, .int t.f, .int t.b])) : Is H (.ref a) t := Da.tup h (.cons (.int _) (.cons (.int _) (.cons (.int _) .nil)))
theorem isL_nil : IsL H [] ([] : List α) := DaAll.nil
theorem isL_cons (h1 : Is H v x) (h2 : IsL H vs l) : IsL H (v :: vs) (x :: l) := DaAll.cons h1 h2
theorem IsL.length (h : IsL H vs l) : vs.length = l.length := by
  have := DaAll.length h
  rw [List.length_map] at this
  exact this
theorem IsL.get {i : Nat} (h : IsL H vs l) (e : vs[i]? = some v) : ∃ x, l[i]? = some x ∧ Is H v x := by
  obtain ⟨d, e1, e2⟩ := DaAll.get h e
  rw [List.getElem?_map] at e1
  obtain ⟨x, e3, rfl⟩ := Option.map_eq_some_iff.mp e1
  exact ⟨x, e3, e2⟩
theorem IsL.at {i : Nat} (h : IsL H vs l) (e : l[i]? = some x) : ∃ v, vs[i]? = some v ∧ Is H v x := by
  obtain ⟨v, e1, e2⟩ := DaAll.at (i := i) (d := Enc.enc x) h (by rw [List.getElem?_map, e] <;> rfl)
  exact ⟨v, e1, e2⟩
theorem IsL.append {ws : List V} {k : List α} (h : IsL H vs l) (g : IsL H ws k) : IsL H (vs ++ ws) (l ++ k) := by
  have := DaAll.append h g
  rw [← List.map_append] at this
  exact this
theorem IsL.push (h : IsL H vs l) (g : Is H v x) : IsL H (vs ++ [v]) (l ++ [x]) := h.append (isL_cons g isL_nil)
theorem IsL.set {i : Nat} (h : IsL H vs l) (g : Is H v x) : IsL H (vs.set i v) (l.set i x) := by
  have := DaAll.set g i h
  rw [← List.map_set] at this
  exact this
theorem IsL.drop {i : Nat} (h : IsL H vs l) : IsL H (vs.drop i) (l.drop i) := by
  have := DaAll.drop i h
  rw [← List.map_drop] at this
  exact this
theorem IsL.take {i : Nat} (h : IsL H vs l) : IsL H (vs.take i) (l.take i) := by
  have := DaAll.take i h
  rw [← List.map_take] at this
  exact this
theorem isL_nats : ∀ l : List Nat, IsL H (l.map fun (n : Nat) => V.int n) l
  | [] => isL_nil
  | n :: l => isL_cons is_nat (isL_nats l)
theorem isL_ints : ∀ l : List Int, IsL H (l.map V.int) l
  | [] => isL_nil
  | n :: l => isL_cons is_int (isL_ints l)
theorem IsL.nats : ∀ {l : List Nat} {vs : List V}, IsL H vs l → vs = l.map fun (n : Nat) => V.int n
  | [], _, h => by cases h; rfl
  | n :: l, _, h => by
    cases h with
    | cons h1 h2 =>
      obtain rfl := Is.nat h1
      rw [IsL.nats h2]
      rfl
theorem IsL.ints : ∀ {l : List Int} {vs : List V}, IsL H vs l → vs = l.map V.int
  | [], _, h => by cases h; rfl
  | n :: l, _, h => by
    cases h with
    | cons h1 h2 =>
      obtain rfl := Is.int h1
      rw [IsL.ints h2]
      rfl
theorem shaped_enc (x : α) (h : Enc.dep α ≤ 64) : SeqAt.shaped (Enc.enc x) = true := by
  have h1 := Enc.deep x
  show ((Enc.enc x).canLay0 && decide ((Enc.enc x).depth ≤ 64)) = true
  rw [Enc.lay, decide_eq_true (by omega)]
  rfl
theorem eqv_enc [DecidableEq α] (x y : α) : PyData.eqv (Enc.enc x) (Enc.enc y) = decide (x = y) := by
  by_cases h : x = y
  · rw [decide_eq_true h]
    exact (Enc.inj x y).mpr h
  · rw [decide_eq_false h]
    cases e : PyData.eqv (Enc.enc x) (Enc.enc y) with
    | false => rfl
    | true => exact absurd ((Enc.inj x y).mp e) h
theorem any_enc [DecidableEq α] (l : List α) (x : α) : ((l.map Enc.enc).any fun z => PyData.eqv z (Enc.enc x)) = decide (x ∈ l) := by
  induction l with
  | nil => simp
  | cons a l ih =>
    rw [List.map_cons, List.any_cons, ih, eqv_enc]
    by_cases h : a = x
    · subst h
      simp
    · have h' : ¬ x = a := fun z => h z.symm
      simp [h, h']
end
end Im

namespace Im
open PySem PySem.Spec PyProof.Rows L2
/-! ### what an expression evaluates to -/
structure Pr where
  p : V → Hp → Prop
  mono : ∀ {v : V} {G G' : Hp}, Same G G' → p v G → p v G'
def Pr.val (v : V) : Pr := ⟨fun u _ => u = v, fun _ h => h⟩
def Pr.is {α : Type} [Enc α] (x : α) : Pr := ⟨fun u G => Is G u x, fun e h => h.mono e⟩
def AllP : List Pr → List V → Hp → Prop
  | [], [], _ => True
  | p :: ps, v :: vs, G => p.p v G ∧ AllP ps vs G
  | _, _, _ => False
theorem AllP.mono {G G' : Hp} (e : Same G G') : ∀ {ps : List Pr} {vs : List V}, AllP ps vs G → AllP ps vs G'
  | [], [], _ => trivial
  | p :: _, _ :: _, h => ⟨p.mono e h.1, AllP.mono e h.2⟩
  | [], _ :: _, h => h.elim
  | _ :: _, [], h => h.elim
def Ev (M : Addr → Prop) (te : TE) (σ : L2.St) (H : Hp) (P : Pr) : Prop := ∀ H1, Same H H1 → ∀ Q : VK, (∀ v H2, Same H1 H2 → P.p v (hid M H2) → Q v H2) → te σ H1 Q
def EvA (M : Addr → Prop) (ta : TA) (σ : L2.St) (H : Hp) (P : List Pr) : Prop := ∀ H1, Same H H1 → ∀ Q : List V → Hp → Prop, (∀ vs H2, Same H1 H2 → AllP P vs (hid M H2) → Q vs H2) → ta σ H1 Q
def EvT (tt : TT) (σ : L2.St) (H : Hp) (b : Bool) : Prop := ∀ H1, Same H H1 → ∀ Q : Bool → Hp → Prop, (∀ H2, Same H1 H2 → Q b H2) → tt σ H1 Q
section
variable {α β : Type} [Enc α] [Enc β] {K : PySem.W.Frag} {M : Addr → Prop} {σ : L2.St} {H H' : Hp} {ta tb te tc : TE} {t u : TT} {P P' : Pr} {x : α} {y : β} {v : V} {D : Ends} {tu tw : TS}
theorem Ev.mono (e : Same H H') (h : Ev M te σ H P) : Ev M te σ H' P := fun H1 a Q q => h H1 (e.trans a) Q q
theorem EvT.mono {b : Bool} (e : Same H H') (h : EvT t σ H b) : EvT t σ H' b := fun H1 a Q q => h H1 (e.trans a) Q q
theorem Ev.imp (h : Ev M te σ H P) (k : ∀ v H1, Same H H1 → P.p v (hid M H1) → P'.p v (hid M H1)) : Ev M te σ H P' := fun H1 e Q q => h H1 e Q fun v H2 e2 hp => q v H2 e2 (k v H2 (e.trans e2) hp)
theorem ev_var {i : Nat} (h : σ[i]? = some (some v)) (hp : P.p v (hid M H)) : Ev M (tVar i) σ H P := fun H1 e Q q => ⟨v, h, q v H1 (Same.refl H1) (P.mono (hid_mono e) hp)⟩
theorem ev_c (hp : P.p v (hid M H)) : Ev M (tC v) σ H P := fun H1 e Q q => q v H1 (Same.refl H1) (P.mono (hid_mono e) hp)
theorem ev_ref {a : Addr} (h : Ev M te σ H (.val v)) (hp : P.p v (hid M H)) : Ev M te σ H P := h.imp fun u H1 e hu => by
  obtain rfl : u = v := hu
  exact P.mono (hid_mono e) hp
theorem ev_nat {n : Nat} (h : Ev M te σ H (.val (.int n))) : Ev M te σ H (.is n) := h.imp fun u H1 e hu => by
  obtain rfl : u = .int n := hu
  exact is_nat
theorem Ev.n {n : Nat} (h : Ev M te σ H (.is n)) : Ev M te σ H (.val (.int n)) := h.imp fun u H1 e hu => Is.nat hu
theorem Ev.b {n : Bool} (h : Ev M te σ H (.is n)) : Ev M te σ H (.val (.bl n)) := h.imp fun u H1 e hu => Is.bool hu
theorem Ev.eq {x' : α} (h : Ev M te σ H (.is x)) (e : x = x') : Ev M te σ H (.is x') := e ▸ h
theorem ev_fld {a C dx : Addr} {fs : List (Str × V)} {f : Str} (h : Ev M ta σ H (.val (.ref a))) (ho : hid M H a = some (.ins C dx fs)) (hc : Cls K C) (hn : NoAttr K C f) (hl : fs.lookup f = some v) (hp : P.p v (hid M H)) : Ev M (tFld K ta f) σ H P :=
  fun H1 e Q q => h H1 e _ fun w H2 e2 hw => by
    obtain rfl : w = .ref a := hw
    have e3 := hid_mono (M := M) (e.trans e2)
    exact ⟨a, C, dx, fs, v, rfl, hid_sub _ _ (e3 _ _ ho), hc, hn, hl, q v H2 e2 (P.mono e3 hp)⟩
theorem ev_ixL {l : List α} {i : Nat} (ha : Ev M ta σ H (.is l)) (hb : Ev M tb σ H (.is i)) (hx : l[i]? = some x) : Ev M (tOp (rIxL K) ta tb) σ H (.is x) :=
  fun H1 e Q q => ha H1 e _ fun w H2 e2 hw => hb H2 (e.trans e2) _ fun z H3 e3 hz => by
    obtain rfl := Is.nat hz
    obtain ⟨a, vs, rfl, h1, h2⟩ := Is.list (hw.mono (hid_mono e3))
    obtain ⟨u, h3, h4⟩ := h2.at hx
    exact ⟨a, vs, _, u, rfl, rfl, SqL.of (hid_sub _ _ h1), atI_nat h3, q u H3 (e2.trans e3) h4⟩
theorem ev_ix0 (ha : Ev M ta σ H (.is (x, y))) : Ev M (tOp (rIxT K) ta (tC (.int 0))) σ H (.is x) :=
  fun H1 e Q q => ha H1 e _ fun w H2 e2 hw => by
    obtain ⟨a, u, w, rfl, h1, h2, h3⟩ := Is.pair hw
    exact ⟨a, _, 0, u, rfl, rfl, SqT.of (hid_sub _ _ h1), rfl, q u H2 e2 h2⟩
theorem ev_ix1 (ha : Ev M ta σ H (.is (x, y))) : Ev M (tOp (rIxT K) ta (tC (.int 1))) σ H (.is y) :=
  fun H1 e Q q => ha H1 e _ fun w H2 e2 hw => by
    obtain ⟨a, u, w, rfl, h1, h2, h3⟩ := Is.pair hw
    exact ⟨a, _, 1, w, rfl, rfl, SqT.of (hid_sub _ _ h1), rfl, q w H2 e2 h3⟩
theorem ev_I {f : Int → Int → V} {m n : Nat} (ha : Ev M ta σ H (.is m)) (hb : Ev M tb σ H (.is n)) (hp : P.p (f m n) (hid M H)) : Ev M (tOp (rI0 f) ta tb) σ H P :=
  fun H1 e Q q => ha H1 e _ fun w H2 e2 hw => hb H2 (e.trans e2) _ fun z H3 e3 hz => by
    obtain rfl := Is.nat hw
    obtain rfl := Is.nat hz
    exact ⟨_, _, rfl, rfl, q _ H3 (e2.trans e3) (P.mono (hid_mono ((e.trans e2).trans e3)) hp)⟩
theorem ev_lt {m n : Nat} (ha : Ev M ta σ H (.is m)) (hb : Ev M tb σ H (.is n)) : Ev M (tOp (rI0 fun i j => .bl (decide (i < j))) ta tb) σ H (.is (decide (m < n))) := ev_I ha hb (by
  have e : decide ((m : Int) < (n : Int)) = decide (m < n) := decide_eq_decide.mpr (by omega)
  rw [e]
  exact is_bool)
theorem ev_le {m n : Nat} (ha : Ev M ta σ H (.is m)) (hb : Ev M tb σ H (.is n)) : Ev M (tOp (rI0 fun i j => .bl (decide (i ≤ j))) ta tb) σ H (.is (decide (m ≤ n))) := ev_I ha hb (by
  have e : decide ((m : Int) ≤ (n : Int)) = decide (m ≤ n) := decide_eq_decide.mpr (by omega)
  rw [e]
  exact is_bool)
theorem ev_gt {m n : Nat} (ha : Ev M ta σ H (.is m)) (hb : Ev M tb σ H (.is n)) : Ev M (tOp (rI0 fun i j => .bl (decide (j < i))) ta tb) σ H (.is (decide (n < m))) := ev_I ha hb (by
  have e : decide ((n : Int) < (m : Int)) = decide (n < m) := decide_eq_decide.mpr (by omega)
  rw [e]
  exact is_bool)
theorem ev_ge {m n : Nat} (ha : Ev M ta σ H (.is m)) (hb : Ev M tb σ H (.is n)) : Ev M (tOp (rI0 fun i j => .bl (decide (j ≤ i))) ta tb) σ H (.is (decide (n ≤ m))) := ev_I ha hb (by
  have e : decide ((n : Int) ≤ (m : Int)) = decide (n ≤ m) := decide_eq_decide.mpr (by omega)
  rw [e]
  exact is_bool)
theorem ev_add {m n : Nat} (ha : Ev M ta σ H (.is m)) (hb : Ev M tb σ H (.is n)) : Ev M (tOp (rI0 fun i j => .int (i + j)) ta tb) σ H (.is (m + n)) := ev_I ha hb (is_nat (n := m + n))
theorem ev_sub {m n : Nat} (h : n ≤ m) (ha : Ev M ta σ H (.is m)) (hb : Ev M tb σ H (.is n)) : Ev M (tOp (rI0 fun i j => .int (i - j)) ta tb) σ H (.is (m - n)) := ev_I ha hb (by
  have e : (m : Int) - (n : Int) = ((m - n : Nat) : Int) := by omega
  rw [e]
  exact is_nat)
theorem ev_eqN {m n : Nat} (ha : Ev M ta σ H (.is m)) (hb : Ev M tb σ H (.is n)) : Ev M (tOp rEq ta tb) σ H (.is (decide (m = n))) :=
  fun H1 e Q q => ha H1 e _ fun w H2 e2 hw => hb H2 (e.trans e2) _ fun z H3 e3 hz => by
    obtain rfl := Is.nat hw
    obtain rfl := Is.nat hz
    have e4 : decide (V.int (m : Int) = V.int (n : Int)) = decide (m = n) := decide_eq_decide.mpr ⟨fun z => by injection z with z; omega, fun z => by rw [z]⟩
    refine ⟨rfl, ?_⟩
    rw [e4]
    exact q _ H3 (e2.trans e3) is_bool
theorem ev_neN {m n : Nat} (ha : Ev M ta σ H (.is m)) (hb : Ev M tb σ H (.is n)) : Ev M (tOp rNe ta tb) σ H (.is (!decide (m = n))) :=
  fun H1 e Q q => ha H1 e _ fun w H2 e2 hw => hb H2 (e.trans e2) _ fun z H3 e3 hz => by
    obtain rfl := Is.nat hw
    obtain rfl := Is.nat hz
    have e4 : decide (V.int (m : Int) = V.int (n : Int)) = decide (m = n) := decide_eq_decide.mpr ⟨fun z => by injection z with z; omega, fun z => by rw [z]⟩
    refine ⟨rfl, ?_⟩
    rw [e4]
    exact q _ H3 (e2.trans e3) is_bool
theorem ev_neZ {m n : Int} (ha : Ev M ta σ H (.is m)) (hb : Ev M tb σ H (.is n)) : Ev M (tOp rNe ta tb) σ H (.is (!decide (m = n))) :=
  fun H1 e Q q => ha H1 e _ fun w H2 e2 hw => hb H2 (e.trans e2) _ fun z H3 e3 hz => by
    obtain rfl := Is.int hw
    obtain rfl := Is.int hz
    have e4 : decide (V.int m = V.int n) = decide (m = n) := decide_eq_decide.mpr ⟨fun z => by injection z, fun z => by rw [z]⟩
    refine ⟨rfl, ?_⟩
    rw [e4]
    exact q _ H3 (e2.trans e3) is_bool
theorem ev_eqD [DecidableEq α] {a b : α} (hd : Enc.dep α ≤ 64) (ha : Ev M ta σ H (.is a)) (hb : Ev M tb σ H (.is b)) : Ev M (tOp (rEqD K) ta tb) σ H (.is (decide (a = b))) :=
  fun H1 e Q q => ha H1 e _ fun w H2 e2 hw => hb H2 (e.trans e2) _ fun z H3 e3 hz => by
    refine ⟨Enc.enc a, Enc.enc b, ((hw.mono (hid_mono e3)).mono hid_sub).dp, (hz.mono hid_sub).dp, shaped_enc _ hd, shaped_enc _ hd, ?_⟩
    rw [eqv_enc]
    exact q _ H3 (e2.trans e3) is_bool
theorem ev_inD [DecidableEq α] {l : List α} [ii : Decidable (x ∈ l)] (hd : Enc.dep α < 64) (ha : Ev M ta σ H (.is x)) (hb : Ev M tb σ H (.is l)) : Ev M (tOp (rInD K) ta tb) σ H (.is (decide (x ∈ l))) :=
  fun H1 e Q q => ha H1 e _ fun w H2 e2 hw => hb H2 (e.trans e2) _ fun z H3 e3 hz => by
    refine ⟨Enc.enc x, l.map Enc.enc, ((hw.mono (hid_mono e3)).mono hid_sub).dp, (hz.mono hid_sub).dp, shaped_enc _ (by omega), shaped_enc l (by show Enc.dep α + 1 ≤ 64; omega), ?_⟩
    rw [any_enc, decide_eq_decide.mpr (Iff.refl (x ∈ l))]
    exact q _ H3 (e2.trans e3) is_bool
theorem ev_notInD [DecidableEq α] {l : List α} [ii : Decidable (x ∈ l)] (hd : Enc.dep α < 64) (ha : Ev M ta σ H (.is x)) (hb : Ev M tb σ H (.is l)) : Ev M (tOp (rNotInD K) ta tb) σ H (.is (!decide (x ∈ l))) :=
  fun H1 e Q q => ha H1 e _ fun w H2 e2 hw => hb H2 (e.trans e2) _ fun z H3 e3 hz => by
    refine ⟨Enc.enc x, l.map Enc.enc, ((hw.mono (hid_mono e3)).mono hid_sub).dp, (hz.mono hid_sub).dp, shaped_enc _ (by omega), shaped_enc l (by show Enc.dep α + 1 ≤ 64; omega), ?_⟩
    rw [any_enc, decide_eq_decide.mpr (Iff.refl (x ∈ l))]
    exact q _ H3 (e2.trans e3) is_bool
theorem ev_cat {l k : List α} (hs : l.length + k.length ≤ 1000000) (hM : Tr M H) (ha : Ev M ta σ H (.is l)) (hb : Ev M tb σ H (.is k)) : Ev M (tOp rCat ta tb) σ H (.is (l ++ k)) :=
  fun H1 e Q q => ha H1 e _ fun w H2 e2 hw => hb H2 (e.trans e2) _ fun z H3 e3 hz => by
    obtain ⟨a, vs, rfl, h1, h2⟩ := Is.list (hw.mono (hid_mono e3))
    obtain ⟨b, ws, rfl, h3, h4⟩ := Is.list hz
    have z1 := h2.length
    have z2 := h4.length
    refine ⟨a, b, vs, ws, rfl, rfl, hid_sub _ _ h1, hid_sub _ _ h3, Nat.le_trans (by omega) (by decide : 1000000 ≤ sizeLine), fun p hp => ?_⟩
    have np : ¬ M p := (hM.mono ((e.trans e2).trans e3)).new hp
    have e4 : Same (hid M H3) (hid M (upd H3 p (.lst (vs ++ ws)))) := hid_mono (same_new hp)
    refine q _ _ ((e2.trans e3).trans (same_new hp)) (is_list (vs := vs ++ ws) ?_ ((h2.mono e4).append (h4.mono e4)))
    rw [hid_no np]
    exact upd_same
theorem ev_len {l : List α} (ha : Ev M ta σ H (.is l)) : Ev M (tCB (fun xs H Q => ∃ p ys, xs = [.ref p] ∧ (SqL K H p ys ∨ SqT K H p ys) ∧ Q (.int ys.length) H) (tCons ta tNil)) σ H (.is l.length) :=
  fun H1 e Q q => ha H1 e _ fun w H2 e2 hw => by
    obtain ⟨a, vs, rfl, h1, h2⟩ := Is.list hw
    have z1 := h2.length
    refine ⟨a, vs, rfl, .inl (SqL.of (hid_sub _ _ h1)), ?_⟩
    rw [z1]
    exact q _ H2 e2 is_nat
theorem ev_andV {a b : Bool} (h1 : Ev M ta σ H (.is a)) (h2 : a = true → Ev M tb σ H (.is b)) : Ev M (tAndV ta tb) σ H (.is (a && b)) := fun H1 e Q q => h1 H1 e _ fun w H2 e2 hw => by
  obtain rfl := Is.bool hw
  refine ⟨a, rfl, ?_⟩
  cases a with
  | true =>
    show tb σ H2 Q
    exact h2 rfl H2 (e.trans e2) Q fun w H3 e3 hw => q w H3 (e2.trans e3) hw
  | false =>
    show Q (.bl false) H2
    exact q _ H2 e2 is_bool
theorem ea_nil : EvA M tNil σ H [] := fun H1 _ _ q => q [] H1 (Same.refl H1) trivial
theorem ea_cons {tr : TA} {ps : List Pr} (h : Ev M ta σ H P) (hr : EvA M tr σ H ps) : EvA M (tCons ta tr) σ H (P :: ps) := fun H1 e _ q =>
  h H1 e _ fun v H2 e2 hv => hr H2 (e.trans e2) _ fun vs H3 e3 hvs => q _ H3 (e2.trans e3) ⟨P.mono (hid_mono e3) hv, hvs⟩
theorem ev_tup {tr : TA} (hM : Tr M H) (h1 : Ev M ta σ H (.is x)) (h2 : Ev M tb σ H (.is y)) : Ev M (tTup (tCons ta (tCons tb tNil))) σ H (.is (x, y)) :=
  fun H1 e Q q => ea_cons h1 (ea_cons h2 ea_nil) H1 e _ fun vs H2 e2 hv => by
    match vs, hv with
    | [u, w], ⟨q1, q2, _⟩ =>
      refine ⟨by show 2 ≤ sizeLine; decide, fun p hp => ?_⟩
      have np : ¬ M p := (hM.mono (e.trans e2)).new hp
      have e4 : Same (hid M H2) (hid M (upd H2 p (.tup [u, w]))) := hid_mono (same_new hp)
      refine q _ _ (e2.trans (same_new hp)) (is_pair (u := u) (w := w) ?_ (Is.mono e4 q1) (Is.mono e4 q2))
      rw [hid_no np]
      exact upd_same
theorem ev_t3 {a f b : Nat} (hM : Tr M H) (h1 : Ev M ta σ H (.is a)) (h2 : Ev M tb σ H (.is f)) (h3 : Ev M tc σ H (.is b)) : Ev M (tTup (tCons ta (tCons tb (tCons tc tNil)))) σ H (.is (T3.mk a f b)) :=
  fun H1 e Q q => ea_cons h1 (ea_cons h2 (ea_cons h3 ea_nil)) H1 e _ fun vs H2 e2 hv => by
    match vs, hv with
    | [u, w, z], ⟨q1, q2, q3, _⟩ =>
      obtain rfl := Is.nat q1
      obtain rfl := Is.nat q2
      obtain rfl := Is.nat q3
      refine ⟨by show 3 ≤ sizeLine; decide, fun p hp => ?_⟩
      have np : ¬ M p := (hM.mono (e.trans e2)).new hp
      refine q _ _ (e2.trans (same_new hp)) (is_t3 (t := T3.mk a f b) ?_)
      rw [hid_no np]
      exact upd_same
/-- a display of items of one kind -/
def evAll (M : Addr → Prop) (σ : L2.St) (H : Hp) : List α → TA → Prop
  | [], tr => tr = tNil
  | x :: l, tr => ∃ ta tr', tr = tCons ta tr' ∧ Ev M ta σ H (.is x) ∧ evAll M σ H l tr'
theorem evAll_run : ∀ {l : List α} {tr : TA}, evAll M σ H l tr → ∀ H1, Same H H1 → ∀ Q : List V → Hp → Prop, (∀ vs H2, Same H1 H2 → IsL (hid M H2) vs l → Q vs H2) → tr σ H1 Q
  | [], _, h, H1, e, Q, q => by
    obtain rfl : _ = tNil := h
    exact q [] H1 (Same.refl H1) isL_nil
  | x :: l, _, h, H1, e, Q, q => by
    obtain ⟨ta, tr', rfl, h1, h2⟩ := h
    exact h1 H1 e _ fun v H2 e2 hv => evAll_run h2 H2 (e.trans e2) _ fun vs H3 e3 hvs => q _ H3 (e2.trans e3) (isL_cons (Is.mono (hid_mono e3) hv) hvs)
theorem ev_lst {l : List α} {tr : TA} (hM : Tr M H) (hs : l.length ≤ 1000) (h : evAll M σ H l tr) : Ev M (tLst tr) σ H (.is l) := fun H1 e Q q =>
  evAll_run h H1 e _ fun vs H2 e2 hv => by
    have z := hv.length
    refine ⟨Nat.le_trans (by omega) (by decide : 1000 ≤ sizeLine), fun p hp => ?_⟩
    have np : ¬ M p := (hM.mono (e.trans e2)).new hp
    have e4 : Same (hid M H2) (hid M (upd H2 p (.lst vs))) := hid_mono (same_new hp)
    refine q _ _ (e2.trans (same_new hp)) (is_list (vs := vs) ?_ (hv.mono e4))
    rw [hid_no np]
    exact upd_same
theorem ev_lst0 (hM : Tr M H) : Ev M (tLst tNil) σ H (.is ([] : List α)) := ev_lst hM (by simp) rfl
theorem ev_lst1 (hM : Tr M H) (h : Ev M ta σ H (.is x)) : Ev M (tLst (tCons ta tNil)) σ H (.is [x]) := ev_lst hM (by simp) ⟨_, _, rfl, h, rfl⟩
theorem ev_lst3 {x' x'' : α} (hM : Tr M H) (h : Ev M ta σ H (.is x)) (h' : Ev M tb σ H (.is x')) (h'' : Ev M tc σ H (.is x'')) : Ev M (tLst (tCons ta (tCons tb (tCons tc tNil)))) σ H (.is [x, x', x'']) := ev_lst hM (by simp) ⟨_, _, rfl, h, _, _, rfl, h', _, _, rfl, h'', rfl⟩
/-! tests -/
theorem et_B {b : Bool} (h : Ev M te σ H (.is b)) : EvT (tB te) σ H b := fun H1 e Q q => h H1 e _ fun v H2 e2 hv => ⟨b, Is.bool hv, q H2 e2⟩
theorem et_test {b : Bool} (h : Ev M te σ H (.is b)) : EvT (tTest te) σ H b := fun H1 e Q q => h H1 e _ fun v H2 e2 hv => ⟨b, Is.bool hv, q H2 e2⟩
theorem et_and {a b : Bool} (h1 : EvT t σ H a) (h2 : a = true → EvT u σ H b) : EvT (tAnd t u) σ H (a && b) := fun H1 e Q q => h1 H1 e _ fun H2 e2 => by
  cases a with
  | true =>
    show u σ H2 Q
    exact h2 rfl H2 (e.trans e2) Q fun H3 e3 => q H3 (e2.trans e3)
  | false =>
    show Q false H2
    exact q H2 e2
theorem et_or {a b : Bool} (h1 : EvT t σ H a) (h2 : a = false → EvT u σ H b) : EvT (tOr t u) σ H (a || b) := fun H1 e Q q => h1 H1 e _ fun H2 e2 => by
  cases a with
  | true =>
    show Q true H2
    exact q H2 e2
  | false =>
    show u σ H2 Q
    exact h2 rfl H2 (e.trans e2) Q fun H3 e3 => q H3 (e2.trans e3)
theorem et_not {a : Bool} (h1 : EvT t σ H a) : EvT (tNot t) σ H (!a) := fun H1 e _ q => h1 H1 e _ fun H2 e2 => q H2 e2
theorem EvT.eq {a b : Bool} (h : EvT t σ H a) (e : a = b) : EvT t σ H b := e ▸ h
/-! calls -/
def SpP (pre : List V → Hp → Pr → Prop) : Sp := fun vs H Q _ => ∃ M P, Tr M H ∧ pre vs (hid M H) P ∧ ∀ v H', Same H H' → P.p v (hid M H') → Q v H'
theorem ev_call {pre : List V → Hp → Pr → Prop} {tr : TA} {ps : List Pr} (hM : Tr M H) (ha : EvA M tr σ H ps) (hs : ∀ vs H1, Same H H1 → AllP ps vs (hid M H1) → pre vs (hid M H1) P) : Ev M (tCall (SpP pre) [] E0 tr) σ H P := fun H1 e Q q =>
  ha H1 e _ fun vs H2 e2 hv => by
    have e3 := e.trans e2
    refine ⟨M, P, hM.mono e3, ?_, fun v H3 e4 hp => q v H3 (e2.trans e4) hp⟩
    rw [List.append_nil]
    exact hs vs H2 e3 hv
theorem ev_meth {pre : List V → Hp → Pr → Prop} {tr : TA} {ps : List Pr} {a C dx : Addr} {fs : List (Str × V)} {m : Str} (hM : Tr M H) (ho : Ev M ta σ H (.val (.ref a))) (hi : hid M H a = some (.ins C dx fs)) (hl : fs.lookup m = none) (ha : EvA M tr σ H ps)
    (hs : ∀ vs H1, Same H H1 → AllP ps vs (hid M H1) → pre (.ref a :: vs) (hid M H1) P) : Ev M (tMeth C m (SpP pre) [] E0 ta tr) σ H P := fun H1 e Q q => ho H1 e _ fun w H2 e2 hw => by
  obtain rfl : w = .ref a := hw
  refine ⟨a, dx, fs, rfl, hid_sub _ _ (hid_mono (e.trans e2) _ _ hi), hl, ?_⟩
  exact ha H2 (e.trans e2) _ fun vs H3 e3 hv => by
    have e4 := (e.trans e2).trans e3
    refine ⟨M, P, hM.mono e4, ?_, fun v H5 e5 hp => q v H5 ((e2.trans e3).trans e5) hp⟩
    rw [List.append_nil]
    exact hs vs H3 e4 hv
/-! statements -/
theorem s_seq {t1 t2 : TS} (h : t1 { D with nx := t2 D } σ H) : tSeq t1 t2 D σ H := h
theorem s_asg {i : Nat} (h : Ev M te σ H P) (k : ∀ v H1, Same H H1 → P.p v (hid M H1) → D.nx (σ.set i (some v)) H1) : tAsg te (gName i) D σ H := h H (Same.refl H) _ fun v H1 e hv => k v H1 e hv
theorem s_ret (h : Ev M te σ H P) (k : ∀ v H1, Same H H1 → P.p v (hid M H1) → D.rt v H1) : tRet te D σ H := h H (Same.refl H) _ fun v H1 e hv => k v H1 e hv
theorem s_if {b : Bool} (h : EvT t σ H b) (h1 : b = true → ∀ H1, Same H H1 → tu D σ H1) (h2 : b = false → ∀ H1, Same H H1 → tw D σ H1) : tIfS t tu tw D σ H := h H (Same.refl H) _ fun H1 e => by
  cases b with
  | true =>
    show tu D σ H1
    exact h1 rfl H1 e
  | false =>
    show tw D σ H1
    exact h2 rfl H1 e
theorem s_drop (h : Ev M te σ H P) (k : ∀ v H1, Same H H1 → P.p v (hid M H1) → D.nx σ H1) : tDrop te D σ H := h H (Same.refl H) _ fun v H1 e hv => k v H1 e hv
/-- l.append(e): l is hidden while e is reckoned -/
theorem s_app {l : Addr} {vs : List V} (hl : H l = some (.lst vs)) (ha : Ev M ta σ H (.val (.ref l))) (h : Ev M te σ H P) (hz : vs.length < 1000000) (k : ∀ v H1, Same H H1 → P.p v (hid M H1) → D.nx σ (upd H1 l (.lst (vs ++ [v])))) :
    tDrop (tBM K "list" rAppend ta (tCons te tNil)) D σ H := ha H (Same.refl H) _ fun w H1 e1 hw => by
  obtain rfl : w = .ref l := hw
  exact ⟨.inl ⟨rfl, vs, SqL.of (e1 _ _ hl)⟩, h H1 e1 _ fun v H2 e2 hv => ⟨l, vs, v, rfl, rfl, e2 _ _ (e1 _ _ hl), Nat.lt_trans hz (by decide), k v H2 (e1.trans e2) hv⟩⟩
theorem s_ext {l : Addr} {vs : List V} {k : List α} (hl : H l = some (.lst vs)) (ha : Ev M ta σ H (.val (.ref l))) (h : Ev M te σ H (.is k)) (hz : vs.length + k.length < 1000000) (kk : ∀ ws H1, Same H H1 → IsL (hid M H1) ws k → D.nx σ (upd H1 l (.lst (vs ++ ws)))) :
    tDrop (tBM K "list" rExtend ta (tCons te tNil)) D σ H := ha H (Same.refl H) _ fun w H1 e1 hw => by
  obtain rfl : w = .ref l := hw
  refine ⟨.inl ⟨rfl, vs, SqL.of (e1 _ _ hl)⟩, h H1 e1 _ fun v H2 e2 hv => ?_⟩
  obtain ⟨b, ws, rfl, h1, h2⟩ := Is.list hv
  have z := h2.length
  exact ⟨l, b, vs, ws, rfl, rfl, e2 _ _ (e1 _ _ hl), hid_sub _ _ h1, Nat.le_trans (by omega) (by decide : 1000000 ≤ sizeLine), kk ws H2 (e1.trans e2) h2⟩
/-- for x in l, l any data -/
theorem s_for {g : TG} {l : List α} {tl : TE} (h : Ev M tl σ H (.is l)) (Pv : Hp → Nat → L2.St → Hp → Prop) (h0 : ∀ H1, Same H H1 → Pv H1 0 σ H1) (hk : ∀ H1 i σ' H', Pv H1 i σ' H' → Same (hid M H1) (hid M H'))
    (hs : ∀ H1 i x v σ' H', Same H H1 → l[i]? = some x → Is (hid M H') v x → Pv H1 i σ' H' → g v σ' H' fun σ2 H2 => tu { D with nx := Pv H1 (i + 1), ct := Pv H1 (i + 1), bk := D.nx } σ2 H2)
    (hd : ∀ H1 σ' H', Same H H1 → Pv H1 l.length σ' H' → D.nx σ' H') : tFor (iList K tl) g tu D σ H := h H (Same.refl H) _ fun w H1 e hw => by
  obtain ⟨a, vs, rfl, h1, h2⟩ := Is.list hw
  have z := h2.length
  refine ⟨a, rfl, ⟨vs, SqL.of (hid_sub _ _ h1)⟩, for_list (xs := vs) (Pv H1) (h0 H1 e) (fun i σ' H' _ p => SqL.of (hid_sub _ _ (hk _ _ _ _ p _ _ h1))) (fun i v σ' H' hi p => ?_) fun σ' H' p => hd H1 σ' H' e (by rw [← z]; exact p)⟩
  obtain ⟨x, hx, hv⟩ := (h2.mono (hk _ _ _ _ p)).get hi
  exact hs H1 i x v σ' H' e hx hv p
end

instance : Enc (Option Nat) where
  enc
    | none => .none
    | some n => .int n
  dep := 0
  lay a := by cases a <;> simp [PyData.canLay0]
  deep a := by cases a <;> simp [PyData.depth]
  inj a b := by
    cases a with
    | none => cases b <;> simp [PyData.eqv]
    | some a => cases b with
      | none => simp [PyData.eqv]
      | some b => simp only [PyData.eqv, beq_iff_eq, Option.some.injEq]; omega
theorem Is.some {H : Hp} {v : V} {n : Nat} (h : Is H v (some n)) : v = .int n := by cases h; rfl
theorem Is.none {H : Hp} {v : V} (h : Is H v (none : Option Nat)) : v = .non := by cases h; rfl
theorem is_some {H : Hp} {n : Nat} : Is H (.int n) (some n) := Da.int _
theorem is_none {H : Hp} : Is H .non (none : Option Nat) := Da.non
/-! ### a list that is filled, hidden meanwhile -/
structure Cw {β : Type} [Enc β] (M : Addr → Prop) (H1 : Hp) (D : Addr) (done : List β) (H' : Hp) : Prop where
  fr : ∀ b o, b ≠ D → H1 b = some o → H' b = some o
  at_ : ∃ ws, H' D = some (.lst ws) ∧ IsL (hid (also M D) H') ws done
section
variable {α β : Type} [Enc α] [Enc β] {K : PySem.W.Frag} {M : Addr → Prop} {σ : L2.St} {H H1 H' : Hp} {ta tb te tc : TE} {tt : TT} {P : Pr} {D : Addr} {done : List β} {y : β}
theorem Cw.le (c : Cw M H1 D done H') (hM : Tr M H1) (hn : H1 D = none) : Le M H1 (also M D) H' := by
  obtain ⟨ws, h1, _⟩ := c.at_
  refine ⟨fun a o h => ?_, fun a m => ?_⟩
  · obtain ⟨q1, q2⟩ := hid_some h
    have q3 : a ≠ D := ne_of_none q2 hn
    rw [hid_no fun z => z.elim q1 q3]
    exact c.fr a o q3 q2
  · rcases m with m | rfl
    · intro z
      cases e : H1 a with
      | none => exact hM a m e
      | some o =>
        rw [c.fr a o (ne_of_none e hn) e] at z
        cases z
    · rw [h1]
      exact fun z => nomatch z
theorem Cw.same (c : Cw M H1 D done H') (hn : H1 D = none) : Same H1 H' := fun b o h => c.fr b o (ne_of_none h hn) h
theorem Cw.is (c : Cw M H1 D done H') (hM : Tr M H1) (hn : H1 D = none) : Is (hid M H') (.ref D) done := by
  obtain ⟨ws, h1, h2⟩ := c.at_
  refine is_list (vs := ws) ?_ (h2.mono also_sub)
  rw [hid_no (hM.new hn)]
  exact h1
theorem Cw.start : Cw M H1 D ([] : List β) (upd H1 D (.lst [])) := ⟨fun b o hb h => by rw [upd_ne hb]; exact h, [], upd_same, isL_nil⟩
theorem Cw.on {H2 : Hp} (c : Cw M H1 D done H') (e : Same H' H2) : Cw M H1 D done H2 := by
  obtain ⟨ws, h1, h2⟩ := c.at_
  exact ⟨fun b o hb h => e _ _ (c.fr b o hb h), ws, e _ _ h1, h2.mono (hid_mono e)⟩
theorem Cw.push {H2 : Hp} {v : V} {ws : List V} (c : Cw M H1 D done H') (e : Same H' H2) (h1 : H2 D = some (.lst ws)) (h2 : IsL (hid (also M D) H2) ws done) (hv : Is (hid (also M D) H2) v y) : Cw M H1 D (done ++ [y]) (upd H2 D (.lst (ws ++ [v]))) := by
  refine ⟨fun b o hb h => by rw [upd_ne hb]; exact e _ _ (c.fr b o hb h), _, upd_same, ?_⟩
  rw [hid_upd also_self]
  exact h2.push hv
theorem Cw.pushes {H2 : Hp} {us ws : List V} {ys : List β} (c : Cw M H1 D done H') (e : Same H' H2) (h2 : IsL (hid (also M D) H2) ws done) (hv : IsL (hid (also M D) H2) us ys) : Cw M H1 D (done ++ ys) (upd H2 D (.lst (ws ++ us))) := by
  refine ⟨fun b o hb h => by rw [upd_ne hb]; exact e _ _ (c.fr b o hb h), _, upd_same, ?_⟩
  rw [hid_upd also_self]
  exact h2.append hv
theorem cw_turn {σ2 : L2.St} {b : Bool} (c : Cw M H1 D done H') (hz : done.length < 1000000) (ht : EvT tt σ2 H' b) (he : b = true → Ev (also M D) te σ2 H' (.is y)) :
    tt σ2 H' fun b' H3 => if b' = true then te σ2 H3 fun v H4 => ∃ acc, H4 D = some (.lst acc) ∧ acc.length < sizeLine ∧ Cw M H1 D (if b = true then done ++ [y] else done) (upd H4 D (.lst (acc ++ [v]))) else Cw M H1 D (if b = true then done ++ [y] else done) H3 := by
  obtain ⟨ws, h1, h2⟩ := c.at_
  refine ht H' (Same.refl H') _ fun H3 e3 => ?_
  cases b with
  | true =>
    refine he rfl H3 e3 _ fun v H4 e4 hv => ⟨ws, (e3.trans e4) _ _ h1, ?_, c.push (e3.trans e4) ((e3.trans e4) _ _ h1) (h2.mono (hid_mono (e3.trans e4))) hv⟩
    have z := h2.length
    exact Nat.lt_of_lt_of_le (by omega) (by decide : 1000000 ≤ sizeLine)
  | false => exact c.on e3
theorem take_more {l : List α} {i : Nat} {x : α} (h : l[i]? = some x) : l.take (i + 1) = l.take i ++ [x] := by
  rw [List.take_add_one, h]
  rfl
theorem fm_more {l : List α} {i : Nat} {x : α} {keep : α → Bool} {f : α → β} (h : l[i]? = some x) : ((l.take (i + 1)).filter keep).map f = if keep x = true then ((l.take i).filter keep).map f ++ [f x] else ((l.take i).filter keep).map f := by
  rw [take_more h, List.filter_append, List.map_append]
  by_cases k : keep x = true
  · rw [if_pos k, List.filter_cons, if_pos k]
    rfl
  · rw [if_neg k, List.filter_cons, if_neg k]
    exact List.append_nil _
theorem fm_len {l : List α} {i : Nat} {keep : α → Bool} {f : α → β} : (((l.take i).filter keep).map f).length ≤ l.length := by
  rw [List.length_map]
  have h1 := List.length_filter_le keep (l.take i)
  have h2 : (l.take i).length ≤ l.length := by rw [List.length_take]; omega
  omega
theorem ev_lc {l : List α} {tl : TE} {j : Nat} {vs : List Nat} (hM : Tr M H) (hsrc : Ev M tl σ H (.is l)) (hz : l.length < 1000000) (keep : α → Bool) (f : α → β) (hw : ∀ x, wipe ((wipe σ vs).set j (some x)) vs = wipe σ vs)
    (ht : ∀ x v M' H2, Le M H M' H2 → x ∈ l → Is (hid M' H2) v x → EvT tt ((wipe σ vs).set j (some v)) H2 (keep x))
    (he : ∀ x v M' H2, Le M H M' H2 → x ∈ l → keep x = true → Is (hid M' H2) v x → Ev M' te ((wipe σ vs).set j (some v)) H2 (.is (f x))) :
    Ev M (tLc (iList K tl) (gName j) tt te vs) σ H (.is ((l.filter keep).map f)) := fun H0 e Q q => hsrc H0 e _ fun w H1 e1 hw1 => by
  obtain ⟨a, us, rfl, h1, h2⟩ := Is.list hw1
  have z := h2.length
  have eT := hM.mono (e.trans e1)
  refine ⟨a, rfl, ⟨us, SqL.of (hid_sub _ _ h1)⟩, fun D hD => ?_⟩
  refine lc_list (xs := us) (fun i H' => Cw M H1 D (((l.take i).filter keep).map f) H') Cw.start (fun i H' _ c => SqL.of (hid_sub _ _ ((c.le eT hD).same _ _ h1))) (fun i v H' hi c => ⟨hw v, ?_⟩) fun H' c => ?_
  · have le := c.le eT hD
    obtain ⟨x, hx, hv⟩ := (h2.mono le.same).get hi
    have hm : x ∈ l := List.mem_of_getElem? hx
    have le' := (Le.of hM (e.trans e1)).trans le
    have := cw_turn (tt := tt) (te := te) (y := f x) (b := keep x) c (by have := fm_len (l := l) (i := i) (keep := keep) (f := f); omega) (ht x v _ H' le' hm hv) fun hb => he x v _ H' le' hm hb hv
    rw [fm_more hx]
    exact this
  · have e2 := c.is eT hD
    rw [z, List.take_length] at e2
    exact q _ _ (e1.trans (c.same hD)) e2
theorem ev_lcR {n : Nat} {ta : TA} {j : Nat} {vs : List Nat} (hM : Tr M H) (hn : EvA M ta σ H [.is n]) (hz : n < 1000000) (keep : Nat → Bool) (f : Nat → β) (hw : ∀ x, wipe ((wipe σ vs).set j (some x)) vs = wipe σ vs)
    (ht : ∀ (i : Nat) M' H2, Le M H M' H2 → i < n → EvT tt ((wipe σ vs).set j (some (.int i))) H2 (keep i))
    (he : ∀ (i : Nat) M' H2, Le M H M' H2 → i < n → keep i = true → Ev M' te ((wipe σ vs).set j (some (.int i))) H2 (.is (f i))) :
    Ev M (tLc (iRng1 ta) (gName j) tt te vs) σ H (.is (((List.range n).filter keep).map f)) := fun H0 e Q q => hn H0 e _ fun ws H1 e1 hw1 => by
  match ws, hw1 with
  | [w], ⟨q1, _⟩ =>
    obtain rfl := Is.nat q1
    have eT := hM.mono (e.trans e1)
    refine ⟨(n : Int), rfl, by omega, by omega, fun D hD => ?_⟩
    refine lc_range (lo := 0) (n := (n : Int).toNat) (fun i H' => Cw M H1 D ((((List.range n).take i).filter keep).map f) H') Cw.start (fun i H' hi c => ?_) fun H' c => ?_
    · have e0 : (0 : Int) + (i : Int) = (i : Int) := Int.zero_add _
      show wipe ((wipe σ vs).set j (some (.int ((0 : Int) + (i : Int))))) vs = wipe σ vs ∧ _
      rw [e0]
      refine ⟨hw _, ?_⟩
      have le' := (Le.of hM (e.trans e1)).trans (c.le eT hD)
      have hi' : i < n := by omega
      have hx : (List.range n)[i]? = some i := List.getElem?_range hi'
      have := cw_turn (tt := tt) (te := te) (y := f i) (b := keep i) c (by have := fm_len (l := List.range n) (i := i) (keep := keep) (f := f); rw [List.length_range] at this; omega) (ht i _ H' le' hi') fun hb => he i _ H' le' hi' hb
      rw [fm_more hx]
      exact this
    · have e2 := c.is eT hD
      have e3 : (List.range n).take (n : Int).toNat = List.range n := List.take_of_length_le (by rw [List.length_range]; omega)
      rw [e3] at e2
      exact q _ _ (e1.trans (c.same hD)) e2
theorem et_yes {σ : L2.St} {H : Hp} : EvT tYes σ H true := fun H1 _ Q q => q H1 (Same.refl H1)
/-- new: a list that is to be filled -/
theorem s_new {i : Nat} {DD : Ends} (k : ∀ l, H l = none → DD.nx (σ.set i (some (.ref l))) (upd H l (.lst []))) : tAsg (tLst tNil) (gName i) DD σ H := ⟨by show 0 ≤ sizeLine; decide, fun p hp => k p hp⟩
end

section
variable {α β : Type} [Enc α] [Enc β] {K : PySem.W.Frag} {M : Addr → Prop} {σ : L2.St} {H H1 H' : Hp} {ta tb te tc : TE} {t : TT} {P : Pr} {D : Ends} {tu tw rest : TS}
theorem s_ifN {b : Bool} (h : EvT t σ H b) (h1 : b = true → ∀ H1, Same H H1 → tu { D with nx := rest D } σ H1) (h2 : b = false → ∀ H1, Same H H1 → rest D σ H1) : tSeq (tIfS t tu tNext) rest D σ H := s_if (D := { D with nx := rest D }) h h1 h2
theorem ev_some {n : Nat} (h : Ev M te σ H (.is n)) : Ev M te σ H (.is (some n)) := h.imp fun u H1 e hu => by
  obtain rfl := Is.nat hu
  exact is_some
theorem ev_lrg2 {a b : Nat} (hM : Tr M H) (hb' : b ≤ 100000) (ha' : a ≤ 100000) (ha : Ev M ta σ H (.is a)) (hb : Ev M tb σ H (.is b)) : Ev M (tLstRg (tRg2 ta tb)) σ H (.is ((List.range (b - a)).map fun i => a + i)) :=
  fun H1 e Q q => ha H1 e _ fun w H2 e2 hw => hb H2 (e.trans e2) _ fun z H3 e3 hz => by
    obtain rfl := Is.nat hw
    obtain rfl := Is.nat hz
    refine ⟨_, _, rfl, rfl, ⟨by omega, by omega, by omega, by omega, by omega⟩, fun p hp => ?_⟩
    have np : ¬ M p := (hM.mono ((e.trans e2).trans e3)).new hp
    refine q _ _ ((e2.trans e3).trans (same_new hp)) (is_list (vs := rgV a b) ?_ ?_)
    · rw [hid_no np]
      exact upd_same
    · have e5 : rgV (a : Int) (b : Int) = ((List.range (b - a)).map fun i => a + i).map fun (n : Nat) => V.int n := by
        unfold rgV
        have e6 : ((b : Int) - (a : Int)).toNat = b - a := by omega
        rw [e6, List.map_map]
        refine List.map_congr_left fun i _ => ?_
        show V.int ((a : Int) + (i : Int)) = V.int ((a + i : Nat) : Int)
        rw [Int.natCast_add]
      rw [e5]
      exact isL_nats _
theorem ev_lrg1 {b : Nat} (hM : Tr M H) (hb' : b ≤ 100000) (hb : Ev M tb σ H (.is b)) : Ev M (tLstRg (tRg1 tb)) σ H (.is (List.range b)) :=
  fun H1 e Q q => hb H1 e _ fun z H3 e3 hz => by
    obtain rfl := Is.nat hz
    refine ⟨_, rfl, ⟨by omega, by omega, by omega, by omega, by omega⟩, fun p hp => ?_⟩
    have np : ¬ M p := (hM.mono (e.trans e3)).new hp
    refine q _ _ (e3.trans (same_new hp)) (is_list (vs := rgV 0 b) ?_ ?_)
    · rw [hid_no np]
      exact upd_same
    · have e5 : rgV 0 (b : Int) = (List.range b).map fun (n : Nat) => V.int n := by
        unfold rgV
        have e6 : ((b : Int) - 0).toNat = b := by omega
        rw [e6]
        refine List.map_congr_left fun i _ => ?_
        rw [Int.zero_add]
      rw [e5]
      exact isL_nats _
end

section
variable {α β : Type} [Enc α] [Enc β] {M : Addr → Prop} {σ : L2.St} {H : Hp} {i n : Nat} {a : Addr} {v : V} {x : α}
theorem ev_n (h : σ[i]? = some (some (.int (n : Nat)))) : Ev M (tVar i) σ H (.is n) := ev_var h is_nat
theorem ev_o (h : σ[i]? = some (some (.ref a))) : Ev M (tVar i) σ H (.val (.ref a)) := ev_var h rfl
theorem ev_d (h : σ[i]? = some (some v)) (hv : Is (hid M H) v x) : Ev M (tVar i) σ H (.is x) := ev_var h hv
theorem ev_cn : Ev M (tC (.int (n : Nat))) σ H (.is n) := ev_c is_nat
theorem ev_cz {z : Int} : Ev M (tC (.int z)) σ H (.is z) := ev_c is_int
theorem AllP.one {p : Pr} {vs : List V} {G : Hp} (h : AllP [p] vs G) : ∃ v, vs = [v] ∧ p.p v G := by
  match vs, h with
  | [v], h => exact ⟨v, rfl, h.1⟩
theorem AllP.two {p q : Pr} {vs : List V} {G : Hp} (h : AllP [p, q] vs G) : ∃ v u, vs = [v, u] ∧ p.p v G ∧ q.p u G := by
  match vs, h with
  | [v, u], h => exact ⟨v, u, rfl, h.1, h.2.1⟩
theorem AllP.three {p q r : Pr} {vs : List V} {G : Hp} (h : AllP [p, q, r] vs G) : ∃ v u w, vs = [v, u, w] ∧ p.p v G ∧ q.p u G ∧ r.p w G := by
  match vs, h with
  | [v, u, w], h => exact ⟨v, u, w, rfl, h.1, h.2.1, h.2.2.1⟩
theorem AllP.four {p q r s : Pr} {vs : List V} {G : Hp} (h : AllP [p, q, r, s] vs G) : ∃ v u w z, vs = [v, u, w, z] ∧ p.p v G ∧ q.p u G ∧ r.p w G ∧ s.p z G := by
  match vs, h with
  | [v, u, w, z], h => exact ⟨v, u, w, z, rfl, h.1, h.2.1, h.2.2.1, h.2.2.2.1⟩
theorem AllP.nil {vs : List V} {G : Hp} (h : AllP [] vs G) : vs = [] := by
  match vs, h with
  | [], _ => rfl
end

/-- return, by what the caller wants -/
theorem s_rk {M : Addr → Prop} {σ : L2.St} {H0 H : Hp} {te : TE} {P : Pr} {D : Ends} (k : ∀ v H', Same H0 H' → P.p v (hid M H') → D.rt v H') (e : Same H0 H) (h : Ev M te σ H P) : tRet te D σ H := s_ret h fun v H1 e1 hv => k v H1 (e.trans e1) hv

section
variable {M : Addr → Prop} {σ : L2.St} {H : Hp} {te : TE} {P : Pr} {D : Ends} {rest : TS}
theorem s_asgS {i : Nat} (h : Ev M te σ H P) (k : ∀ v H1, Same H H1 → P.p v (hid M H1) → rest D (σ.set i (some v)) H1) : tSeq (tAsg te (gName i)) rest D σ H := s_asg (D := { D with nx := rest D }) h k
theorem s_newS {i : Nat} (k : ∀ l, H l = none → rest D (σ.set i (some (.ref l))) (upd H l (.lst []))) : tSeq (tAsg (tLst tNil) (gName i)) rest D σ H := s_new (DD := { D with nx := rest D }) k
theorem et_is {i : Nat} {v : V} (h : σ[i]? = some (some v)) : EvT (tTest (tOp (fun x y H Q => y = V.non ∧ Q (V.bl (decide (x = V.non))) H) (tVar i) (tC V.non))) σ H (decide (v = .non)) := fun H2 e2 Q' q' => ⟨v, h, rfl, ⟨_, rfl, q' H2 (Same.refl _)⟩⟩
end
end Im

namespace Im
open PySem PySem.Spec PyProof.Rows L2
/-! ### the text -/
def top (i : Nat) : Stmt := PySem.Challenge.pw_impliedparts_s01_answers.main.body.getD i (.Pass ⟨0, 0, 0, 0⟩)
abbrev s_initCategory : Stmt := inClass (top 1) 0
theorem sc_initCategory : FnScope ["self", "things"] ["self", "things"] (defScope s_initCategory) := ⟨rfl, rfl, rfl, by decide +kernel, rfl, by decide +kernel, by decide +kernel⟩
abbrev s_arrow_count : Stmt := inClass (top 1) 1
theorem sc_arrow_count : FnScope ["self"] ["self"] (defScope s_arrow_count) := ⟨rfl, rfl, rfl, by decide +kernel, rfl, by decide +kernel, by decide +kernel⟩
abbrev s_add_arrow : Stmt := inClass (top 1) 2
theorem sc_add_arrow : FnScope ["self", "x", "y"] ["self", "x", "y"] (defScope s_add_arrow) := ⟨rfl, rfl, rfl, by decide +kernel, rfl, by decide +kernel, by decide +kernel⟩
abbrev s_is_own : Stmt := inClass (top 1) 3
theorem sc_is_own : FnScope ["self", "f"] ["self", "f"] (defScope s_is_own) := ⟨rfl, rfl, rfl, by decide +kernel, rfl, by decide +kernel, by decide +kernel⟩
abbrev s_told_arrows : Stmt := inClass (top 1) 4
theorem sc_told_arrows : FnScope ["self"] ["self"] (defScope s_told_arrows) := ⟨rfl, rfl, rfl, by decide +kernel, rfl, by decide +kernel, by decide +kernel⟩
abbrev s_arrows_from : Stmt := inClass (top 1) 5
theorem sc_arrows_from : FnScope ["self", "x", "f"] ["self", "x"] (defScope s_arrows_from) := ⟨rfl, rfl, rfl, by decide +kernel, rfl, by decide +kernel, by decide +kernel⟩
abbrev s_do_meet : Stmt := inClass (top 1) 6
theorem sc_do_meet : FnScope ["self", "f", "g"] ["self", "f", "g"] (defScope s_do_meet) := ⟨rfl, rfl, rfl, by decide +kernel, rfl, by decide +kernel, by decide +kernel⟩
abbrev s_tell_made : Stmt := inClass (top 1) 7
theorem sc_tell_made : FnScope ["self", "f", "g", "h"] ["self", "f", "g", "h"] (defScope s_tell_made) := ⟨rfl, rfl, rfl, by decide +kernel, rfl, by decide +kernel, by decide +kernel⟩
abbrev s_what_make : Stmt := inClass (top 1) 8
theorem sc_what_make : FnScope ["self", "f", "g"] ["self", "f", "g"] (defScope s_what_make) := ⟨rfl, rfl, rfl, by decide +kernel, rfl, by decide +kernel, by decide +kernel⟩
abbrev s_meeting_pairs : Stmt := inClass (top 1) 9
theorem sc_meeting_pairs : FnScope ["self", "pairs", "f", "g"] ["self"] (defScope s_meeting_pairs) := ⟨rfl, rfl, rfl, by decide +kernel, rfl, by decide +kernel, by decide +kernel⟩
abbrev s_makes_fit : Stmt := inClass (top 1) 10
theorem sc_makes_fit : FnScope ["self", "f", "g", "h"] ["self", "f", "g"] (defScope s_makes_fit) := ⟨rfl, rfl, rfl, by decide +kernel, rfl, by decide +kernel, by decide +kernel⟩
abbrev s_is_same_taken : Stmt := inClass (top 1) 11
theorem sc_is_same_taken : FnScope ["self", "f", "g", "h"] ["self", "f", "g", "h"] (defScope s_is_same_taken) := ⟨rfl, rfl, rfl, by decide +kernel, rfl, by decide +kernel, by decide +kernel⟩
abbrev s_is_category : Stmt := inClass (top 1) 12
theorem sc_is_category : FnScope ["self", "pairs", "f", "g", "h"] ["self"] (defScope s_is_category) := ⟨rfl, rfl, rfl, by decide +kernel, rfl, by decide +kernel, by decide +kernel⟩
abbrev s_call_start : Stmt := top 15
theorem sc_call_start : FnScope ["line", "n"] ["line", "n"] (defScope s_call_start) := ⟨rfl, rfl, rfl, by decide +kernel, rfl, by decide +kernel, by decide +kernel⟩
abbrev s_call_arrow : Stmt := top 16
theorem sc_call_arrow : FnScope ["line", "x", "y", "category", "number"] ["line", "x", "y"] (defScope s_call_arrow) := ⟨rfl, rfl, rfl, by decide +kernel, rfl, by decide +kernel, by decide +kernel⟩
abbrev s_call_make : Stmt := top 17
theorem sc_call_make : FnScope ["line", "f", "g", "h", "category"] ["line", "f", "g", "h"] (defScope s_call_make) := ⟨rfl, rfl, rfl, by decide +kernel, rfl, by decide +kernel, by decide +kernel⟩
abbrev s_all_choices : Stmt := top 19
theorem sc_all_choices : FnScope ["members", "found", "member", "longer", "some"] ["members"] (defScope s_all_choices) := ⟨rfl, rfl, rfl, by decide +kernel, rfl, by decide +kernel, by decide +kernel⟩
abbrev s_brought_part : Stmt := top 21
theorem sc_brought_part : FnScope ["instance", "rows", "reached", "row"] ["instance", "rows"] (defScope s_brought_part) := ⟨rfl, rfl, rfl, by decide +kernel, rfl, by decide +kernel, by decide +kernel⟩
abbrev s_met_part : Stmt := top 22
theorem sc_met_part : FnScope ["p", "q", "row"] ["p", "q"] (defScope s_met_part) := ⟨rfl, rfl, rfl, by decide +kernel, rfl, by decide +kernel, by decide +kernel⟩
abbrev s_joined_part : Stmt := top 23
theorem sc_joined_part : FnScope ["instance", "p", "q", "row"] ["instance", "p", "q"] (defScope s_joined_part) := ⟨rfl, rfl, rfl, by decide +kernel, rfl, by decide +kernel, by decide +kernel⟩
abbrev s_implied_part : Stmt := top 24
theorem sc_implied_part : FnScope ["instance", "p", "q", "row"] ["instance", "p", "q"] (defScope s_implied_part) := ⟨rfl, rfl, rfl, by decide +kernel, rfl, by decide +kernel, by decide +kernel⟩
abbrev s_row_implies : Stmt := top 25
theorem sc_row_implies : FnScope ["instance", "row", "p", "q", "led"] ["instance", "row", "p", "q"] (defScope s_row_implies) := ⟨rfl, rfl, rfl, by decide +kernel, rfl, by decide +kernel, by decide +kernel⟩
abbrev s_not_part : Stmt := top 26
theorem sc_not_part : FnScope ["instance", "p"] ["instance", "p"] (defScope s_not_part) := ⟨rfl, rfl, rfl, by decide +kernel, rfl, by decide +kernel, by decide +kernel⟩
abbrev s_rows_between : Stmt := top 27
theorem sc_rows_between : FnScope ["instance", "p", "without", "row"] ["instance", "p"] (defScope s_rows_between) := ⟨rfl, rfl, rfl, by decide +kernel, rfl, by decide +kernel, by decide +kernel⟩
abbrev s_is_within : Stmt := top 28
theorem sc_is_within : FnScope ["p", "q"] ["p", "q"] (defScope s_is_within) := ⟨rfl, rfl, rfl, by decide +kernel, rfl, by decide +kernel, by decide +kernel⟩
abbrev s_arrows_into : Stmt := top 29
theorem sc_arrows_into : FnScope ["instance", "row", "p", "f"] ["instance", "row", "p"] (defScope s_arrows_into) := ⟨rfl, rfl, rfl, by decide +kernel, rfl, by decide +kernel, by decide +kernel⟩
abbrev s_all_parts : Stmt := top 30
theorem sc_all_parts : FnScope ["instance", "some"] ["instance"] (defScope s_all_parts) := ⟨rfl, rfl, rfl, by decide +kernel, rfl, by decide +kernel, by decide +kernel⟩
abbrev s_is_part : Stmt := top 31
theorem sc_is_part : FnScope ["instance", "rows", "row"] ["instance", "rows"] (defScope s_is_part) := ⟨rfl, rfl, rfl, by decide +kernel, rfl, by decide +kernel, by decide +kernel⟩
abbrev s_told_part : Stmt := top 32
theorem sc_told_part : FnScope ["part", "told", "row"] ["part"] (defScope s_told_part) := ⟨rfl, rfl, rfl, by decide +kernel, rfl, by decide +kernel, by decide +kernel⟩
abbrev s_refusal_of_parts : Stmt := top 34
theorem sc_refusal_of_parts : FnScope ["line", "numbers"] ["line", "numbers"] (defScope s_refusal_of_parts) := ⟨rfl, rfl, rfl, by decide +kernel, rfl, by decide +kernel, by decide +kernel⟩
abbrev s_put_part : Stmt := top 35
theorem sc_put_part : FnScope ["line", "o", "part"] ["line", "o", "part"] (defScope s_put_part) := ⟨rfl, rfl, rfl, by decide +kernel, rfl, by decide +kernel, by decide +kernel⟩
abbrev s_call_part : Stmt := top 36
theorem sc_call_part : FnScope ["line", "p", "numbers", "refusal", "instance", "rows", "row", "k"] ["line", "p", "numbers"] (defScope s_call_part) := ⟨rfl, rfl, rfl, by decide +kernel, rfl, by decide +kernel, by decide +kernel⟩
abbrev s_call_meet : Stmt := top 37
theorem sc_call_meet : FnScope ["line", "p", "q", "o", "refusal"] ["line", "p", "q", "o"] (defScope s_call_meet) := ⟨rfl, rfl, rfl, by decide +kernel, rfl, by decide +kernel, by decide +kernel⟩
abbrev s_call_join : Stmt := top 38
theorem sc_call_join : FnScope ["line", "p", "q", "o", "refusal"] ["line", "p", "q", "o"] (defScope s_call_join) := ⟨rfl, rfl, rfl, by decide +kernel, rfl, by decide +kernel, by decide +kernel⟩
abbrev s_call_implies : Stmt := top 39
theorem sc_call_implies : FnScope ["line", "p", "q", "o", "refusal"] ["line", "p", "q", "o"] (defScope s_call_implies) := ⟨rfl, rfl, rfl, by decide +kernel, rfl, by decide +kernel, by decide +kernel⟩
abbrev s_call_not : Stmt := top 40
theorem sc_call_not : FnScope ["line", "p", "o", "refusal"] ["line", "p", "o"] (defScope s_call_not) := ⟨rfl, rfl, rfl, by decide +kernel, rfl, by decide +kernel, by decide +kernel⟩
abbrev s_closed_sets : Stmt := top 42
theorem sc_closed_sets : FnScope ["category", "x", "some"] ["category", "x"] (defScope s_closed_sets) := ⟨rfl, rfl, rfl, by decide +kernel, rfl, by decide +kernel, by decide +kernel⟩
abbrev s_is_closed : Stmt := top 43
theorem sc_is_closed : FnScope ["category", "some", "f", "g"] ["category", "some"] (defScope s_is_closed) := ⟨rfl, rfl, rfl, by decide +kernel, rfl, by decide +kernel, by decide +kernel⟩
abbrev s_call_count : Stmt := top 45
theorem sc_call_count : FnScope ["line", "i", "instance"] ["line", "i"] (defScope s_call_count) := ⟨rfl, rfl, rfl, by decide +kernel, rfl, by decide +kernel, by decide +kernel⟩
abbrev s_call_nth : Stmt := top 46
theorem sc_call_nth : FnScope ["line", "p", "k", "refusal", "found"] ["line", "p", "k"] (defScope s_call_nth) := ⟨rfl, rfl, rfl, by decide +kernel, rfl, by decide +kernel, by decide +kernel⟩
abbrev s_call_sieves : Stmt := top 47
theorem sc_call_sieves : FnScope ["line", "x"] ["line", "x"] (defScope s_call_sieves) := ⟨rfl, rfl, rfl, by decide +kernel, rfl, by decide +kernel, by decide +kernel⟩
abbrev s_maps_between : Stmt := top 49
theorem sc_maps_between : FnScope ["source", "target", "rows", "found", "k", "row"] ["source", "target"] (defScope s_maps_between) := ⟨rfl, rfl, rfl, by decide +kernel, rfl, by decide +kernel, by decide +kernel⟩
abbrev s_ties_closed_by : Stmt := top 50
theorem sc_ties_closed_by : FnScope ["source", "rows", "k", "ties", "a", "f", "b"] ["source", "rows", "k"] (defScope s_ties_closed_by) := ⟨rfl, rfl, rfl, by decide +kernel, rfl, by decide +kernel, by decide +kernel⟩
abbrev s_longer_maps : Stmt := top 51
theorem sc_longer_maps : FnScope ["found", "target", "size", "ties", "longer", "taken", "v", "tried"] ["found", "target", "size", "ties"] (defScope s_longer_maps) := ⟨rfl, rfl, rfl, by decide +kernel, rfl, by decide +kernel, by decide +kernel⟩
abbrev s_keeps_ties : Stmt := top 52
theorem sc_keeps_ties : FnScope ["target", "taken", "ties", "a", "f", "b"] ["target", "taken", "ties"] (defScope s_keeps_ties) := ⟨rfl, rfl, rfl, by decide +kernel, rfl, by decide +kernel, by decide +kernel⟩
abbrev s_initInstance : Stmt := inClass (top 56) 0
theorem sc_initInstance : FnScope ["self", "category", "f"] ["self", "category"] (defScope s_initInstance) := ⟨rfl, rfl, rfl, by decide +kernel, rfl, by decide +kernel, by decide +kernel⟩
abbrev s_tell_size : Stmt := inClass (top 56) 1
theorem sc_tell_size : FnScope ["self", "x", "k", "category", "f"] ["self", "x", "k"] (defScope s_tell_size) := ⟨rfl, rfl, rfl, by decide +kernel, rfl, by decide +kernel, by decide +kernel⟩
abbrev s_has_row : Stmt := inClass (top 56) 2
theorem sc_has_row : FnScope ["self", "x", "r"] ["self", "x", "r"] (defScope s_has_row) := ⟨rfl, rfl, rfl, by decide +kernel, rfl, by decide +kernel, by decide +kernel⟩
abbrev s_all_rows : Stmt := inClass (top 56) 3
theorem sc_all_rows : FnScope ["self", "rows", "x", "size", "r"] ["self"] (defScope s_all_rows) := ⟨rfl, rfl, rfl, by decide +kernel, rfl, by decide +kernel, by decide +kernel⟩
abbrev s_led_along : Stmt := inClass (top 56) 4
theorem sc_led_along : FnScope ["self", "f", "row"] ["self", "f", "row"] (defScope s_led_along) := ⟨rfl, rfl, rfl, by decide +kernel, rfl, by decide +kernel, by decide +kernel⟩
abbrev s_led_to : Stmt := inClass (top 56) 5
theorem sc_led_to : FnScope ["self", "row", "f"] ["self", "row"] (defScope s_led_to) := ⟨rfl, rfl, rfl, by decide +kernel, rfl, by decide +kernel, by decide +kernel⟩
abbrev s_first_gap : Stmt := inClass (top 56) 6
theorem sc_first_gap : FnScope ["self", "f", "size", "r", "v"] ["self"] (defScope s_first_gap) := ⟨rfl, rfl, rfl, by decide +kernel, rfl, by decide +kernel, by decide +kernel⟩
abbrev s_first_detour : Stmt := inClass (top 56) 7
theorem sc_first_detour : FnScope ["self", "f", "g", "made", "r", "v"] ["self"] (defScope s_first_detour) := ⟨rfl, rfl, rfl, by decide +kernel, rfl, by decide +kernel, by decide +kernel⟩
abbrev s_first_fault : Stmt := inClass (top 56) 8
theorem sc_first_fault : FnScope ["self", "fault"] ["self"] (defScope s_first_fault) := ⟨rfl, rfl, rfl, by decide +kernel, rfl, by decide +kernel, by decide +kernel⟩
abbrev s_is_right : Stmt := inClass (top 56) 9
theorem sc_is_right : FnScope ["self"] ["self"] (defScope s_is_right) := ⟨rfl, rfl, rfl, by decide +kernel, rfl, by decide +kernel, by decide +kernel⟩
abbrev s_call_rows : Stmt := top 58
theorem sc_call_rows : FnScope ["line", "i", "x", "k", "instance", "rows_then"] ["line", "i", "x", "k"] (defScope s_call_rows) := ⟨rfl, rfl, rfl, by decide +kernel, rfl, by decide +kernel, by decide +kernel⟩
abbrev s_call_set : Stmt := top 59
theorem sc_call_set : FnScope ["line", "i", "f", "r", "v", "category", "instance", "led"] ["line", "i", "f", "r", "v"] (defScope s_call_set) := ⟨rfl, rfl, rfl, by decide +kernel, rfl, by decide +kernel, by decide +kernel⟩
abbrev s_call_check : Stmt := top 60
theorem sc_call_check : FnScope ["line", "i", "fault"] ["line", "i"] (defScope s_call_check) := ⟨rfl, rfl, rfl, by decide +kernel, rfl, by decide +kernel, by decide +kernel⟩
abbrev s_call_way : Stmt := top 61
theorem sc_call_way : FnScope ["line", "k", "instance", "found"] ["line", "k"] (defScope s_call_way) := ⟨rfl, rfl, rfl, by decide +kernel, rfl, by decide +kernel, by decide +kernel⟩
abbrev s_initLine : Stmt := inClass (top 66) 0
theorem sc_initLine : FnScope ["self"] ["self"] (defScope s_initLine) := ⟨rfl, rfl, rfl, by decide +kernel, rfl, by decide +kernel, by decide +kernel⟩
abbrev s_forget_rows : Stmt := inClass (top 66) 1
theorem sc_forget_rows : FnScope ["self", "i", "p"] ["self"] (defScope s_forget_rows) := ⟨rfl, rfl, rfl, by decide +kernel, rfl, by decide +kernel, by decide +kernel⟩
abbrev s_forget_parts : Stmt := inClass (top 66) 2
theorem sc_forget_parts : FnScope ["self", "i", "p"] ["self", "i"] (defScope s_forget_parts) := ⟨rfl, rfl, rfl, by decide +kernel, rfl, by decide +kernel, by decide +kernel⟩
abbrev s_has_instance : Stmt := inClass (top 66) 3
theorem sc_has_instance : FnScope ["self", "i"] ["self", "i"] (defScope s_has_instance) := ⟨rfl, rfl, rfl, by decide +kernel, rfl, by decide +kernel, by decide +kernel⟩
abbrev s_is_part_of : Stmt := inClass (top 66) 4
theorem sc_is_part_of : FnScope ["self", "p", "i"] ["self", "p", "i"] (defScope s_is_part_of) := ⟨rfl, rfl, rfl, by decide +kernel, rfl, by decide +kernel, by decide +kernel⟩
abbrev s_share_instance : Stmt := inClass (top 66) 5
theorem sc_share_instance : FnScope ["self", "numbers", "p"] ["self", "numbers"] (defScope s_share_instance) := ⟨rfl, rfl, rfl, by decide +kernel, rfl, by decide +kernel, by decide +kernel⟩
abbrev s_instance_of : Stmt := inClass (top 66) 6
theorem sc_instance_of : FnScope ["self", "p"] ["self", "p"] (defScope s_instance_of) := ⟨rfl, rfl, rfl, by decide +kernel, rfl, by decide +kernel, by decide +kernel⟩
abbrev s_moves_of_map : Stmt := top 68
theorem sc_moves_of_map : FnScope ["source", "numbers", "moves", "k", "row"] ["source", "numbers"] (defScope s_moves_of_map) := ⟨rfl, rfl, rfl, by decide +kernel, rfl, by decide +kernel, by decide +kernel⟩
abbrev s_forward_part : Stmt := top 69
theorem sc_forward_part : FnScope ["target", "moves", "p", "reached", "move", "row"] ["target", "moves", "p"] (defScope s_forward_part) := ⟨rfl, rfl, rfl, by decide +kernel, rfl, by decide +kernel, by decide +kernel⟩
abbrev s_back_part : Stmt := top 70
theorem sc_back_part : FnScope ["moves", "p", "move"] ["moves", "p"] (defScope s_back_part) := ⟨rfl, rfl, rfl, by decide +kernel, rfl, by decide +kernel, by decide +kernel⟩
abbrev s_for_all_part : Stmt := top 71
theorem sc_for_all_part : FnScope ["target", "moves", "p", "missed", "move", "row"] ["target", "moves", "p"] (defScope s_for_all_part) := ⟨rfl, rfl, rfl, by decide +kernel, rfl, by decide +kernel, by decide +kernel⟩
abbrev s_leads_to_none : Stmt := top 72
theorem sc_leads_to_none : FnScope ["target", "row", "missed", "led"] ["target", "row", "missed"] (defScope s_leads_to_none) := ⟨rfl, rfl, rfl, by decide +kernel, rfl, by decide +kernel, by decide +kernel⟩
abbrev s_refusal_along : Stmt := top 74
theorem sc_refusal_along : FnScope ["line", "p", "i", "o", "j"] ["line", "p", "i", "o", "j"] (defScope s_refusal_along) := ⟨rfl, rfl, rfl, by decide +kernel, rfl, by decide +kernel, by decide +kernel⟩
abbrev s_chosen_moves : Stmt := top 75
theorem sc_chosen_moves : FnScope ["line"] ["line"] (defScope s_chosen_moves) := ⟨rfl, rfl, rfl, by decide +kernel, rfl, by decide +kernel, by decide +kernel⟩
abbrev s_call_forward : Stmt := top 76
theorem sc_call_forward : FnScope ["line", "p", "o", "refusal"] ["line", "p", "o"] (defScope s_call_forward) := ⟨rfl, rfl, rfl, by decide +kernel, rfl, by decide +kernel, by decide +kernel⟩
abbrev s_call_back : Stmt := top 77
theorem sc_call_back : FnScope ["line", "p", "o", "refusal"] ["line", "p", "o"] (defScope s_call_back) := ⟨rfl, rfl, rfl, by decide +kernel, rfl, by decide +kernel, by decide +kernel⟩
abbrev s_call_for_all : Stmt := top 78
theorem sc_call_for_all : FnScope ["line", "p", "o", "refusal"] ["line", "p", "o"] (defScope s_call_for_all) := ⟨rfl, rfl, rfl, by decide +kernel, rfl, by decide +kernel, by decide +kernel⟩
abbrev s_call_within : Stmt := top 80
theorem sc_call_within : FnScope ["line", "p", "q"] ["line", "p", "q"] (defScope s_call_within) := ⟨rfl, rfl, rfl, by decide +kernel, rfl, by decide +kernel, by decide +kernel⟩
abbrev s_call_truth : Stmt := top 81
theorem sc_call_truth : FnScope ["line", "p", "x", "r", "refusal", "instance", "found"] ["line", "p", "x", "r"] (defScope s_call_truth) := ⟨rfl, rfl, rfl, by decide +kernel, rfl, by decide +kernel, by decide +kernel⟩
abbrev s_call_between : Stmt := top 82
theorem sc_call_between : FnScope ["line", "p", "refusal"] ["line", "p"] (defScope s_call_between) := ⟨rfl, rfl, rfl, by decide +kernel, rfl, by decide +kernel, by decide +kernel⟩
abbrev s_call_shows : Stmt := top 83
theorem sc_call_shows : FnScope ["line", "p"] ["line", "p"] (defScope s_call_shows) := ⟨rfl, rfl, rfl, by decide +kernel, rfl, by decide +kernel, by decide +kernel⟩
abbrev s_answers : Stmt := top 107
theorem sc_answers : FnScope ["calls", "line", "told", "at", "end", "answer"] ["calls"] (defScope s_answers) := ⟨rfl, rfl, rfl, by decide +kernel, rfl, by decide +kernel, by decide +kernel⟩
abbrev s_end_of_call : Stmt := top 108
theorem sc_end_of_call : FnScope ["calls", "at", "end"] ["calls", "at"] (defScope s_end_of_call) := ⟨rfl, rfl, rfl, by decide +kernel, rfl, by decide +kernel, by decide +kernel⟩
abbrev s_answer_of : Stmt := top 109
theorem sc_answer_of : FnScope ["line", "call", "given"] ["line", "call", "given"] (defScope s_answer_of) := ⟨rfl, rfl, rfl, by decide +kernel, rfl, by decide +kernel, by decide +kernel⟩
abbrev s_answer_of_category_call : Stmt := top 110
theorem sc_answer_of_category_call : FnScope ["line", "call", "given"] ["line", "call", "given"] (defScope s_answer_of_category_call) := ⟨rfl, rfl, rfl, by decide +kernel, rfl, by decide +kernel, by decide +kernel⟩
abbrev s_answer_of_instance_call : Stmt := top 111
theorem sc_answer_of_instance_call : FnScope ["line", "call", "given"] ["line", "call", "given"] (defScope s_answer_of_instance_call) := ⟨rfl, rfl, rfl, by decide +kernel, rfl, by decide +kernel, by decide +kernel⟩
abbrev s_answer_of_part_call : Stmt := top 112
theorem sc_answer_of_part_call : FnScope ["line", "call", "given"] ["line", "call", "given"] (defScope s_answer_of_part_call) := ⟨rfl, rfl, rfl, by decide +kernel, rfl, by decide +kernel, by decide +kernel⟩
abbrev s_answer_of_map_call : Stmt := top 113
theorem sc_answer_of_map_call : FnScope ["line", "call", "given"] ["line", "call", "given"] (defScope s_answer_of_map_call) := ⟨rfl, rfl, rfl, by decide +kernel, rfl, by decide +kernel, by decide +kernel⟩
abbrev s_answer_of_counting_call : Stmt := top 114
theorem sc_answer_of_counting_call : FnScope ["line", "call", "given"] ["line", "call", "given"] (defScope s_answer_of_counting_call) := ⟨rfl, rfl, rfl, by decide +kernel, rfl, by decide +kernel, by decide +kernel⟩
abbrev s_answer_of_truth_call : Stmt := top 115
theorem sc_answer_of_truth_call : FnScope ["line", "call", "given"] ["line", "call", "given"] (defScope s_answer_of_truth_call) := ⟨rfl, rfl, rfl, by decide +kernel, rfl, by decide +kernel, by decide +kernel⟩
def GI (mg : Str → Option Value) (x : Str) (i : Int) : Prop := ∃ u, mg x = some u ∧ RelV (.int i) u
theorem pe_gI {X : Cx} {x : Str} {i : Int} {pos : Pos} (h : GI X.mg x i) (hg : Gl X x) (hd : (x == ("__debug__" : Str)) = false := by decide) : PE X (.Name x pos) (tC (.int i)) := by
  obtain ⟨u, h1, h2⟩ := h
  exact pe_glob hg h1 h2 hd
theorem hu65 {A : Around} {k : Nat} (hr : Room k A) : A.units + 65 < cLine := by
  have := hr.un
  omega
def wnL : List Nat := [1, 2, 3, 3, 4, 1, 1, 1, 3, 3, 3, 2, 2, 2, 2, 2, 1, 2, 3, 1, 1, 1]
structure Txt (K : PySem.W.Frag) (mg : Str → Option Value) (CC CI CL WN : Addr) : Prop where
  cCC : Cls K CC
  cCI : Cls K CI
  cCL : Cls K CL
  nCC_things : NoAttr K CC "things"
  nCC_begins : NoAttr K CC "begins"
  nCC_ends : NoAttr K CC "ends"
  nCC_made : NoAttr K CC "made"
  nCI_category : NoAttr K CI "category"
  nCI_sizes : NoAttr K CI "sizes"
  nCI_leads : NoAttr K CI "leads"
  nCL_category : NoAttr K CL "category"
  nCL_instances : NoAttr K CL "instances"
  nCL_parts : NoAttr K CL "parts"
  nCL_chosen : NoAttr K CL "chosen"
  gCC : mg "Category" = some (.ref CC)
  gCI : mg "Instance" = some (.ref CI)
  gCL : mg "Line" = some (.ref CL)
  c_NOT_REFUSED : GI mg "NOT_REFUSED" (0)
  c_UNFIT : GI mg "UNFIT" (-1)
  c_NO_SUCH_INSTANCE : GI mg "NO_SUCH_INSTANCE" (-2)
  c_NO_SUCH_PART : GI mg "NO_SUCH_PART" (-2)
  c_NO_SUCH_ARROW : GI mg "NO_SUCH_ARROW" (-3)
  c_NO_SUCH_MAP : GI mg "NO_SUCH_MAP" (-3)
  c_NO_SUCH_NUMBER : GI mg "NO_SUCH_NUMBER" (-3)
  c_FULL : GI mg "FULL" (-5)
  c_NOT_RIGHT : GI mg "NOT_RIGHT" (-6)
  c_NO_MAP_CHOSEN : GI mg "NO_MAP_CHOSEN" (-6)
  c_MOST_THINGS : GI mg "MOST_THINGS" (3)
  c_MOST_ARROWS : GI mg "MOST_ARROWS" (8)
  c_NOT_TOLD : GI mg "NOT_TOLD" (99)
  c_MOST_ROWS : GI mg "MOST_ROWS" (6)
  c_INSTANCES : GI mg "INSTANCES" (2)
  c_PARTS : GI mg "PARTS" (8)
  c_PARTS_OF_EACH : GI mg "PARTS_OF_EACH" (4)
  c_START : GI mg "START" (0)
  c_ARROW : GI mg "ARROW" (1)
  c_MAKE : GI mg "MAKE" (2)
  c_ROWS : GI mg "ROWS" (3)
  c_SET : GI mg "SET" (4)
  c_CHECK : GI mg "CHECK" (5)
  c_WAY : GI mg "WAY" (6)
  c_PART : GI mg "PART" (7)
  c_MEET : GI mg "MEET" (8)
  c_JOIN : GI mg "JOIN" (9)
  c_IMPLIES : GI mg "IMPLIES" (10)
  c_NOT : GI mg "NOT" (11)
  c_FORWARD : GI mg "FORWARD" (12)
  c_BACK : GI mg "BACK" (13)
  c_FOR_ALL : GI mg "FOR_ALL" (14)
  c_WITHIN : GI mg "WITHIN" (15)
  c_COUNT : GI mg "COUNT" (16)
  c_NTH : GI mg "NTH" (17)
  c_TRUTH : GI mg "TRUTH" (18)
  c_SIEVES : GI mg "SIEVES" (19)
  c_BETWEEN : GI mg "BETWEEN" (20)
  f_len : mg "len" = none
  f_range : mg "range" = none
  f_list : mg "list" = none
  f_enumerate : mg "enumerate" = none
  f_max : mg "max" = none
  f_sum : mg "sum" = none
  wnG : mg "WHOLE_NUMBERS" = some (.ref WN)
  wnT : ∀ H : Hp, SqT K H WN (wnL.map fun (n : Nat) => V.int n)
section
variable (P : Program) (w : World) (K : PySem.W.Frag) (mg : Str → Option Value) (base : Heap)
def DefOk (k : Nat) (x : Str) (ps : List Str) (sp : Sp) : Prop := ∃ f fd, mg x = some (.ref f) ∧ PySem.W.keepIn K (.ref f) = true ∧ Binds K fd ps [] ∧ FnOk P w K mg base CX0 k f fd ps sp
def MetOk (C : Addr) (k : Nat) (m : Str) (ps : List Str) (sp : Sp) : Prop := ∃ f fd, Meth K C m f ∧ Binds K fd ps [] ∧ FnOk P w K mg base CX0 k f fd ps sp
def NewOk (C : Addr) (k : Nat) (ps : List Str) (sp : Sp) : Prop := ∃ f fd, Mk K C f ∧ Binds K fd ps [] ∧ FnOk P w K mg base CX0 k f fd ps sp
end
section
variable {X : Cx} {k : Nat} {x m : Str} {C : Addr} {ps : List Str} {sp : Sp} {e o : Expr} {es : List Expr} {t : TA} {ta : TE} {p pos apos : Pos}
theorem pe_callD (g : DefOk X.prog X.w X.K X.mg X.base k x ps sp) (hr : Room k X.A) (hg : Gl X x) (ha : PA X (e :: es) t)
    (hdb : (x == ("__debug__" : Str)) = false := by decide) (he : starEach (e :: es) X.env = (false, eval e X.env) :: starEach es X.env := by rfl) (hpl : (backTo pos (starEach es X.env)).any (·.1) = false := by rfl) :
    PE X (.Call (.Name x p) (e :: es) [] pos) (tCall sp [] E0 t) := by
  obtain ⟨f, fd, hm, hk, hb, F⟩ := g
  exact pe_call F hr hg hm hk hb .nil pass0 ha hdb he hpl
theorem pe_methD {pl : Sem Bool} (ho : PE X o ta) (c : Cls X.K C) (g : MetOk X.prog X.w X.K X.mg X.base C k m ps sp) (hr : Room k X.A) (ha : PA X (e :: es) t)
    (hst : starEach (e :: es) X.env = (false, eval e X.env) :: starEach es X.env := by rfl) (hpl : (backTo pos (starEach es X.env)).any (·.1) = false := by rfl)
    (ht : eval (.Call (.Attribute o m apos) (e :: es) [] pos) X.env = (do
      let ov ← eval o X.env
      standAt apos.atName
      let (f, first) ← holding [ov] (getMethod ov m pl)
      callWith pos f first (backTo pos (starEach (e :: es) X.env)) (backToKw pos (keywordEach [] X.env))) := by rfl) :
    PE X (.Call (.Attribute o m apos) (e :: es) [] pos) (tMeth C m sp [] E0 ta t) := by
  obtain ⟨f, fd, hm, hb, F⟩ := g
  exact pe_meth ho c hm F hr hb .nil pass0 ha hst hpl ht
theorem pe_methD0 {pl : Sem Bool} (ho : PE X o ta) (c : Cls X.K C) (g : MetOk X.prog X.w X.K X.mg X.base C k m ps sp) (hr : Room k X.A)
    (ht : eval (.Call (.Attribute o m apos) [] [] pos) X.env = (do
      let ov ← eval o X.env
      standAt apos.atName
      let (f, first) ← holding [ov] (getMethod ov m pl)
      callWith pos f first (backTo pos (starEach [] X.env)) (backToKw pos (keywordEach [] X.env))) := by rfl) :
    PE X (.Call (.Attribute o m apos) [] [] pos) (tMeth C m sp [] E0 ta tNil) := by
  obtain ⟨f, fd, hm, hb, F⟩ := g
  exact pe_meth0 ho c hm F hr hb .nil pass0 ht
theorem pe_makeD (g : NewOk X.prog X.w X.K X.mg X.base C k ps sp) (hr : Room (k + 1) X.A) (hg : Gl X x) (hm : X.mg x = some (.ref C)) (ha : PA X (e :: es) t)
    (hdb : (x == ("__debug__" : Str)) = false := by decide) (he : starEach (e :: es) X.env = (false, eval e X.env) :: starEach es X.env := by rfl) (hpl : (backTo pos (starEach es X.env)).any (·.1) = false := by rfl) :
    PE X (.Call (.Name x p) (e :: es) [] pos) (tMake C sp [] E0 t) := by
  obtain ⟨f, fd, M, hb, F⟩ := g
  exact pe_make M F hr hg hm hb .nil pass0 ha hdb he hpl
theorem pe_makeD0 (g : NewOk X.prog X.w X.K X.mg X.base C k ps sp) (hr : Room (k + 1) X.A) (hg : Gl X x) (hm : X.mg x = some (.ref C)) (hdb : (x == ("__debug__" : Str)) = false := by decide) :
    PE X (.Call (.Name x p) [] [] pos) (tMake C sp [] E0 tNil) := by
  obtain ⟨f, fd, M, hb, F⟩ := g
  exact pe_make0 M F hr hg hm hb .nil pass0 hdb
end
end Im

namespace Im
open PySem PySem.Spec PyProof.Rows L2
/-! ### how the objects lie in the heap -/
theorem lk_here {k : Str} {v : V} {r : List (Str × V)} : List.lookup k ((k, v) :: r) = some v := by
  have e : (k == k) = true := beq_self_eq_true k
  simp only [List.lookup, e]
theorem lk_past {k g : Str} {v : V} {r : List (Str × V)} (h : (k == g) = false) : List.lookup k ((g, v) :: r) = List.lookup k r := by
  simp only [List.lookup, h]
theorem put_here {f : Str} {v x : V} {r : List (Str × V)} : putF f v ((f, x) :: r) = (f, v) :: r := if_pos rfl
theorem put_past {f g : Str} {v x : V} {r : List (Str × V)} (h : ¬ g = f) : putF f v ((g, x) :: r) = (g, x) :: putF f v r := if_neg h
def catF (n : Nat) (b e d : Addr) : List (Str × V) := [("things", .int n), ("begins", .ref b), ("ends", .ref e), ("made", .ref d)]
def instF (c s l : Addr) : List (Str × V) := [("category", .ref c), ("sizes", .ref s), ("leads", .ref l)]
def lineF (c i p : Addr) (ch : V) : List (Str × V) := [("category", .ref c), ("instances", .ref i), ("parts", .ref p), ("chosen", ch)]
theorem catF_none {n : Nat} {b e d : Addr} {k : Str} (h1 : (k == ("things" : Str)) = false) (h2 : (k == ("begins" : Str)) = false) (h3 : (k == ("ends" : Str)) = false) (h4 : (k == ("made" : Str)) = false) : (catF n b e d).lookup k = none :=
  (lk_past h1).trans ((lk_past h2).trans ((lk_past h3).trans ((lk_past h4).trans rfl)))
theorem instF_none {c s l : Addr} {k : Str} (h1 : (k == ("category" : Str)) = false) (h2 : (k == ("sizes" : Str)) = false) (h3 : (k == ("leads" : Str)) = false) : (instF c s l).lookup k = none :=
  (lk_past h1).trans ((lk_past h2).trans ((lk_past h3).trans rfl))
theorem lineF_none {c i p : Addr} {ch : V} {k : Str} (h1 : (k == ("category" : Str)) = false) (h2 : (k == ("instances" : Str)) = false) (h3 : (k == ("parts" : Str)) = false) (h4 : (k == ("chosen" : Str)) = false) : (lineF c i p ch).lookup k = none :=
  (lk_past h1).trans ((lk_past h2).trans ((lk_past h3).trans ((lk_past h4).trans rfl)))
def madeOf (makes : List ((Nat × Nat) × Nat)) (f g : Nat) : Option Nat := (makes.find? fun x => x.1 == (f, g)).map fun x => x.2
def Made (kvs : List (List Key × V)) (makes : List ((Nat × Nat) × Nat)) : Prop := ∀ f g : Nat, valV kvs [Sum.inl (f : Int), Sum.inl (g : Int)] = (madeOf makes f g).map fun h => V.int (h : Nat)
def CatAt (CC : Addr) (G : Hp) (c : Addr) (m : Fc05.Cat) : Prop := ∃ dx b e d kvs, G c = some (.ins CC dx (catF m.n b e d)) ∧ Is G (.ref b) (m.arrows.map (·.1)) ∧ Is G (.ref e) (m.arrows.map (·.2)) ∧ G d = some (.dT kvs) ∧ Made kvs m.makes
def lead (m : Fc05.Cat) (t : Fc05.Inst) (f : Nat) : List Nat := if f < m.n then List.range (Fc05.rows t f) else t.tab.getD f []
def leadsOf (m : Fc05.Cat) (t : Fc05.Inst) : List (List Nat) := (List.range m.arrows.length).map (lead m t)
def InstAt (CC CI : Addr) (G : Hp) (i c : Addr) (m : Fc05.Cat) (t : Fc05.Inst) : Prop := ∃ dx s l, G i = some (.ins CI dx (instF c s l)) ∧ CatAt CC G c m ∧ Is G (.ref s) t.size ∧ Is G (.ref l) (leadsOf m t)
section
variable {CC CI CL WN : Addr} {G G' : Hp} {c i : Addr} {m : Fc05.Cat} {t : Fc05.Inst}
theorem CatAt.mono (e : Same G G') (h : CatAt CC G c m) : CatAt CC G' c m := by
  obtain ⟨dx, b, e', d, kvs, h1, h2, h3, h4, h5⟩ := h
  exact ⟨dx, b, e', d, kvs, e _ _ h1, h2.mono e, h3.mono e, e _ _ h4, h5⟩
theorem InstAt.mono (e : Same G G') (h : InstAt CC CI G i c m t) : InstAt CC CI G' i c m t := by
  obtain ⟨dx, s, l, h1, h2, h3, h4⟩ := h
  exact ⟨dx, s, l, e _ _ h1, h2.mono e, h3.mono e, h4.mono e⟩
theorem InstAt.cat (h : InstAt CC CI G i c m t) : CatAt CC G c m := by
  obtain ⟨dx, s, l, h1, h2, h3, h4⟩ := h
  exact h2
variable {K : PySem.W.Frag} {mg : Str → Option Value} {M : Addr → Prop} {σ : L2.St} {H : Hp} {ta : TE} {P : Pr}
theorem ev_things (T : Txt K mg CC CI CL WN) (h : Ev M ta σ H (.val (.ref c))) (hc : CatAt CC (hid M H) c m) : Ev M (tFld K ta "things") σ H (.is m.n) := by
  obtain ⟨dx, b, e', d, kvs, h1, h2, h3, h4, h5⟩ := hc
  exact ev_fld h h1 T.cCC T.nCC_things lk_here is_nat
theorem ev_begins (T : Txt K mg CC CI CL WN) (h : Ev M ta σ H (.val (.ref c))) (hc : CatAt CC (hid M H) c m) : Ev M (tFld K ta "begins") σ H (.is (m.arrows.map (·.1))) := by
  obtain ⟨dx, b, e', d, kvs, h1, h2, h3, h4, h5⟩ := hc
  exact ev_fld h h1 T.cCC T.nCC_begins ((lk_past (by decide +kernel)).trans lk_here) h2
theorem ev_ends (T : Txt K mg CC CI CL WN) (h : Ev M ta σ H (.val (.ref c))) (hc : CatAt CC (hid M H) c m) : Ev M (tFld K ta "ends") σ H (.is (m.arrows.map (·.2))) := by
  obtain ⟨dx, b, e', d, kvs, h1, h2, h3, h4, h5⟩ := hc
  exact ev_fld h h1 T.cCC T.nCC_ends ((lk_past (by decide +kernel)).trans ((lk_past (by decide +kernel)).trans lk_here)) h3
theorem ev_category (T : Txt K mg CC CI CL WN) (h : Ev M ta σ H (.val (.ref i))) (hc : InstAt CC CI (hid M H) i c m t) : Ev M (tFld K ta "category") σ H (.val (.ref c)) := by
  obtain ⟨dx, s, l, h1, h2, h3, h4⟩ := hc
  exact ev_fld h h1 T.cCI T.nCI_category lk_here rfl
theorem ev_sizes (T : Txt K mg CC CI CL WN) (h : Ev M ta σ H (.val (.ref i))) (hc : InstAt CC CI (hid M H) i c m t) : Ev M (tFld K ta "sizes") σ H (.is t.size) := by
  obtain ⟨dx, s, l, h1, h2, h3, h4⟩ := hc
  exact ev_fld h h1 T.cCI T.nCI_sizes ((lk_past (by decide +kernel)).trans lk_here) h3
theorem ev_leads (T : Txt K mg CC CI CL WN) (h : Ev M ta σ H (.val (.ref i))) (hc : InstAt CC CI (hid M H) i c m t) : Ev M (tFld K ta "leads") σ H (.is (leadsOf m t)) := by
  obtain ⟨dx, s, l, h1, h2, h3, h4⟩ := hc
  exact ev_fld h h1 T.cCI T.nCI_leads ((lk_past (by decide +kernel)).trans ((lk_past (by decide +kernel)).trans lk_here)) h4
/-- a method of a category, of an instance -/
theorem ev_methC {pre : List V → Hp → Pr → Prop} {tr : TA} {ps : List Pr} {k : Str} (hM : Tr M H) (ho : Ev M ta σ H (.val (.ref c))) (hc : CatAt CC (hid M H) c m) (h1 : (k == ("things" : Str)) = false) (h2 : (k == ("begins" : Str)) = false) (h3 : (k == ("ends" : Str)) = false) (h4 : (k == ("made" : Str)) = false) (ha : EvA M tr σ H ps)
    (hs : ∀ vs H1, Same H H1 → AllP ps vs (hid M H1) → pre (.ref c :: vs) (hid M H1) P) : Ev M (tMeth CC k (SpP pre) [] E0 ta tr) σ H P := by
  obtain ⟨dx, b, e', d, kvs, q1, q2, q3, q4, q5⟩ := hc
  exact ev_meth hM ho q1 (catF_none h1 h2 h3 h4) ha hs
theorem ev_methI {pre : List V → Hp → Pr → Prop} {tr : TA} {ps : List Pr} {k : Str} (hM : Tr M H) (ho : Ev M ta σ H (.val (.ref i))) (hc : InstAt CC CI (hid M H) i c m t) (h1 : (k == ("category" : Str)) = false) (h2 : (k == ("sizes" : Str)) = false) (h3 : (k == ("leads" : Str)) = false) (ha : EvA M tr σ H ps)
    (hs : ∀ vs H1, Same H H1 → AllP ps vs (hid M H1) → pre (.ref i :: vs) (hid M H1) P) : Ev M (tMeth CI k (SpP pre) [] E0 ta tr) σ H P := by
  obtain ⟨dx, s, l, q1, q2, q3, q4⟩ := hc
  exact ev_meth hM ho q1 (instF_none h1 h2 h3) ha hs
end
/-! ### the category's methods -/
def told (m : Fc05.Cat) : List Nat := (Fc05.all m).filter fun f => decide (m.n ≤ f)
def arrowsFrom (m : Fc05.Cat) (x : Nat) : List Nat := (Fc05.all m).filter fun f => Fc05.from_ m f == x
def mkOf (m : Fc05.Cat) (f g : Nat) : Option Nat := if f < m.n then some g else if g < m.n then some f else madeOf m.makes f g
section
variable (CC CI CL : Addr)
def sp_arrow_count (CC CI CL : Addr) : Sp := SpP fun vs G P => ∃ c m, vs = [.ref c] ∧ CatAt CC G c m ∧ P = .is m.arrows.length
def sp_is_own (CC CI CL : Addr) : Sp := SpP fun vs G P => ∃ (c : Addr) (m : Fc05.Cat) (f : Nat), vs = [.ref c, .int f] ∧ CatAt CC G c m ∧ P = .is (decide (f < m.n))
def sp_told_arrows (CC CI CL : Addr) : Sp := SpP fun vs G P => ∃ c m, vs = [.ref c] ∧ CatAt CC G c m ∧ m.arrows.length ≤ 8 ∧ m.n ≤ m.arrows.length ∧ P = .is (told m)
def sp_arrows_from (CC CI CL : Addr) : Sp := SpP fun vs G P => ∃ (c : Addr) (m : Fc05.Cat) (x : Nat), vs = [.ref c, .int x] ∧ CatAt CC G c m ∧ m.arrows.length ≤ 8 ∧ P = .is (arrowsFrom m x)
def sp_do_meet (CC CI CL : Addr) : Sp := SpP fun vs G P => ∃ (c : Addr) (m : Fc05.Cat) (f g : Nat), vs = [.ref c, .int f, .int g] ∧ CatAt CC G c m ∧ f < m.arrows.length ∧ g < m.arrows.length ∧ P = .is (decide (Fc05.to_ m f = Fc05.from_ m g))
def sp_what_make (CC CI CL : Addr) : Sp := SpP fun vs G P => ∃ (c : Addr) (m : Fc05.Cat) (f g : Nat), vs = [.ref c, .int f, .int g] ∧ CatAt CC G c m ∧ P = .is (mkOf m f g)
end
theorem arrows_at1 {m : Fc05.Cat} {f : Nat} (h : f < m.arrows.length) : (m.arrows.map (·.1))[f]? = some (Fc05.from_ m f) := by
  rw [List.getElem?_map, List.getElem?_eq_getElem h]
  show some (m.arrows[f]).1 = some _
  unfold Fc05.from_
  rw [List.getD_eq_getElem?_getD, List.getElem?_eq_getElem h]
  rfl
theorem arrows_at2 {m : Fc05.Cat} {f : Nat} (h : f < m.arrows.length) : (m.arrows.map (·.2))[f]? = some (Fc05.to_ m f) := by
  rw [List.getElem?_map, List.getElem?_eq_getElem h]
  show some (m.arrows[f]).2 = some _
  unfold Fc05.to_
  rw [List.getD_eq_getElem?_getD, List.getElem?_eq_getElem h]
  rfl
theorem range_from : ∀ (n k : Nat), (List.range (n + k)).filter (fun f => decide (n ≤ f)) = (List.range k).map fun i => n + i
  | n, 0 => by
    rw [Nat.add_zero, List.filter_eq_nil_iff.mpr]
    · rfl
    · intro a ha
      have := List.mem_range.mp ha
      simp
      omega
  | n, k + 1 => by
    rw [← Nat.add_assoc, List.range_succ, List.filter_append, range_from n k, List.range_succ, List.map_append]
    have h : decide (n ≤ n + k) = true := decide_eq_true (by omega)
    simp [h]
theorem told_eq {m : Fc05.Cat} (h : m.n ≤ m.arrows.length) : ((List.range (m.arrows.length - m.n)).map fun i => m.n + i) = told m := by
  unfold told Fc05.all
  rw [← range_from]
  congr 2
  omega
theorem ev_made {K : PySem.W.Frag} {mg : Str → Option Value} {CC CI CL WN c : Addr} {m : Fc05.Cat} {M : Addr → Prop} {σ : L2.St} {H : Hp} {ta tf tg : TE} {f g : Nat} (T : Txt K mg CC CI CL WN) (hM : Tr M H) (h : Ev M ta σ H (.val (.ref c))) (hc : CatAt CC (hid M H) c m) (hf : Ev M tf σ H (.is f)) (hg : Ev M tg σ H (.is g)) :
    Ev M (tDGet1 (tFld K ta "made") (tTup (tCons tf (tCons tg tNil)))) σ H (.is (madeOf m.makes f g)) := fun H1 e Q q => by
  obtain ⟨dx, b, e', d, kvs, h1, h2, h3, h4, h5⟩ := hc
  refine ev_fld (P := .val (.ref d)) h h1 T.cCC T.nCC_made ((lk_past (by decide +kernel)).trans ((lk_past (by decide +kernel)).trans ((lk_past (by decide +kernel)).trans lk_here))) rfl H1 e _ fun w H2 e2 hw => ?_
  obtain rfl : w = .ref d := hw
  have h6 : H2 d = some (.dT kvs) := hid_sub _ _ (hid_mono (e.trans e2) _ _ h4)
  refine ⟨d, rfl, .inr ⟨kvs, .inl h6⟩, ?_⟩
  refine ea_cons hf (ea_cons hg ea_nil) H2 (e.trans e2) _ fun vs H3 e3 hv => ?_
  match vs, hv with
  | [u, w], ⟨q1, q2, _⟩ =>
    obtain rfl := Is.nat q1
    obtain rfl := Is.nat q2
    refine ⟨by show 2 ≤ sizeLine; decide, fun p hp => ?_⟩
    refine ⟨_, DGet.t (k := [Sum.inl (f : Int), Sum.inl (g : Int)]) (same_new hp _ _ (e3 _ _ h6)) upd_same, ?_⟩
    rw [h5 f g]
    refine q _ _ ((e2.trans e3).trans (same_new hp)) ?_
    cases madeOf m.makes f g with
    | none => exact is_none
    | some n => exact is_some
section
variable {P : Program} {w : World} {K : PySem.W.Frag} {mg : Str → Option Value} {base : Heap} {CC CI CL WN : Addr}
theorem ok_arrow_count {f : Addr} {fd : FuncData} (F : Fun K "arrow_count" "Category.arrow_count" s_arrow_count f fd) (T : Txt K mg CC CI CL WN) : FnOk P w K mg base CX0 1 f fd ["self"] (sp_arrow_count CC CI CL) := by
  refine F.ok sc_arrow_count (fun vs H Q E h => ?_) (fun cdv A outer s H vs Q E hr h => ⟨_, (pss_one (ps_ret (pe_callB call_len_seq (by rfl) T.f_len PySem.boot_len (pa_cons (pe_fld (pv 0) rfl) pa_nil)))), ?_⟩)
  · obtain ⟨_, _, _, ⟨_, _, rfl, _⟩, _⟩ := h
    rfl
  · obtain ⟨M, P, hM, ⟨c, m, rfl, hc, rfl⟩, k⟩ := h
    exact s_ret ((ev_len (ev_begins T (ev_o rfl) hc)).eq (List.length_map ..)) fun v H1 e hv => k v H1 e hv
theorem ok_is_own {f : Addr} {fd : FuncData} (F : Fun K "is_own" "Category.is_own" s_is_own f fd) (T : Txt K mg CC CI CL WN) : FnOk P w K mg base CX0 1 f fd ["self", "f"] (sp_is_own CC CI CL) := by
  refine F.ok sc_is_own (fun vs H Q E h => ?_) (fun cdv A outer s H vs Q E hr h => ⟨_, (pss_one (ps_ret (pe_cmpR op_lt (pv 1) (pe_fld (pv 0) rfl) (nomark _)))), ?_⟩)
  · obtain ⟨_, _, _, ⟨_, _, _, rfl, _⟩, _⟩ := h
    rfl
  · obtain ⟨M, P, hM, ⟨c, m, f, rfl, hc, rfl⟩, k⟩ := h
    exact s_ret (ev_lt (ev_n rfl) (ev_things T (ev_o rfl) hc)) fun v H1 e hv => k v H1 e hv
theorem ok_arrows_from {f : Addr} {fd : FuncData} (F : Fun K "arrows_from" "Category.arrows_from" s_arrows_from f fd) (T : Txt K mg CC CI CL WN) : FnOk P w K mg base CX0 1 f fd ["self", "x"] (sp_arrows_from CC CI CL) := by
  refine F.ok sc_arrows_from (fun vs H Q E h => ?_) (fun cdv A outer s H vs Q E hr h => ⟨_, (pss_one (ps_ret (pe_lc (own := [("f", 2)]) (g := gName 2) (tt := (tTest (tOp rEq (tOp (rIxL K) (tFld K (tVar 0) "begins") (tVar 2)) (tVar 1)))) (te := (tVar 2)) rfl sc_arrows_from.nd (pi_range1 (by rfl) T.f_range (pa_cons (pe_callB call_len_seq (by rfl) T.f_len PySem.boot_len (pa_cons (pe_fld (pv 0) rfl) pa_nil)) pa_nil)) (blkOk_by (own := [("f", 2)]) (N := ["self", "x", "f"]) (sc := defScope s_arrows_from) (by decide +kernel)) (fun _ _ _ _ _ => pg_name (i := 2) sc_arrows_from.nd rfl (Or.inl rfl)) (fun _ _ _ _ _ => (pts_one (pt_cmpR op_eq (pe_ix ix_list (pe_fld (pv 0) rfl) (pv 2) (fun _ _ => rfl)) (pv 1) (nomark _)))) (fun _ _ _ _ _ => (pv 2))))), ?_⟩)
  · obtain ⟨_, _, _, ⟨_, _, _, rfl, _⟩, _⟩ := h
    rfl
  · obtain ⟨M, P, hM, ⟨c, m, x, rfl, hc, hz, rfl⟩, k⟩ := h
    refine s_ret (P := .is (arrowsFrom m x)) (Ev.eq (ev_lcR hM (ea_cons (ev_len (ev_begins T (ev_o rfl) hc)) ea_nil) (by rw [List.length_map]; omega) (fun f => Fc05.from_ m f == x) (fun f => f) (fun _ => rfl) (fun f M' H2 le hf => ?_) fun f M' H2 le hf _ => ev_n rfl) ?_) fun v H1 e hv => k v H1 e hv
    · rw [List.length_map] at hf
      exact (et_test (ev_eqN (ev_ixL (ev_begins T (ev_o rfl) (hc.mono le.same)) (ev_n rfl) (arrows_at1 hf)) (ev_n rfl))).eq (by rw [Bool.beq_eq_decide_eq])
    · rw [List.map_id', List.length_map]
      rfl
theorem ok_do_meet {f : Addr} {fd : FuncData} (F : Fun K "do_meet" "Category.do_meet" s_do_meet f fd) (T : Txt K mg CC CI CL WN) : FnOk P w K mg base CX0 1 f fd ["self", "f", "g"] (sp_do_meet CC CI CL) := by
  refine F.ok sc_do_meet (fun vs H Q E h => ?_) (fun cdv A outer s H vs Q E hr h => ⟨_, (pss_one (ps_ret (pe_cmpR op_eq (pe_ix ix_list (pe_fld (pv 0) rfl) (pv 1) (fun _ _ => rfl)) (pe_ix ix_list (pe_fld (pv 0) rfl) (pv 2) (fun _ _ => rfl)) (nomark _)))), ?_⟩)
  · obtain ⟨_, _, _, ⟨_, _, _, _, rfl, _⟩, _⟩ := h
    rfl
  · obtain ⟨M, P, hM, ⟨c, m, f, g, rfl, hc, hf, hg, rfl⟩, k⟩ := h
    exact s_ret (ev_eqN (ev_ixL (ev_ends T (ev_o rfl) hc) (ev_n rfl) (arrows_at2 hf)) (ev_ixL (ev_begins T (ev_o rfl) hc) (ev_n rfl) (arrows_at1 hg))) fun v H1 e hv => k v H1 e hv

theorem ok_told_arrows {f : Addr} {fd : FuncData} (F : Fun K "told_arrows" "Category.told_arrows" s_told_arrows f fd) (T : Txt K mg CC CI CL WN) : FnOk P w K mg base CX0 1 f fd ["self"] (sp_told_arrows CC CI CL) := by
  refine F.ok sc_told_arrows (fun vs H Q E h => ?_) (fun cdv A outer s H vs Q E hr h => ⟨_, (pss_one (ps_ret (pe_listRg rfl (by rfl) T.f_list (prg_2 (by rfl) T.f_range (pe_fld (pv 0) rfl) (pe_callB call_len_seq (by rfl) T.f_len PySem.boot_len (pa_cons (pe_fld (pv 0) rfl) pa_nil)))))), ?_⟩)
  · obtain ⟨_, _, _, ⟨_, _, rfl, _⟩, _⟩ := h
    rfl
  · obtain ⟨M, P, hM, ⟨c, m, rfl, hc, hz, hn, rfl⟩, k⟩ := h
    refine s_ret (P := .is (told m)) (Ev.eq (ev_lrg2 hM (by rw [List.length_map]; omega) (by omega) (ev_things T (ev_o rfl) hc) (ev_len (ev_begins T (ev_o rfl) hc))) ?_) fun v H1 e hv => k v H1 e hv
    rw [List.length_map]
    exact told_eq hn
theorem ok_what_make {f : Addr} {fd : FuncData} (F : Fun K "what_make" "Category.what_make" s_what_make f fd) (T : Txt K mg CC CI CL WN) (g_is_own : MetOk P w K mg base CC 1 "is_own" ["self", "f"] (sp_is_own CC CI CL)) : FnOk P w K mg base CX0 2 f fd ["self", "f", "g"] (sp_what_make CC CI CL) := by
  refine F.ok sc_what_make (fun vs H Q E h => ?_) (fun cdv A outer s H vs Q E hr h => ⟨_, (pss_cons (ps_if (pt_val (pe_methD (pv 0) T.cCC g_is_own (hr.mono (by decide)) (pa_cons (pv 1) pa_nil))) (pss_one (ps_ret (pv 2))) pss_nil)
    (pss_cons (ps_if (pt_val (pe_methD (pv 0) T.cCC g_is_own (hr.mono (by decide)) (pa_cons (pv 2) pa_nil))) (pss_one (ps_ret (pv 1))) pss_nil)
    (pss_one (ps_ret (pe_dget1 (hu_of hr) (pe_fld (pv 0) rfl) (pe_tup (pa_cons (pv 1) (pa_cons (pv 2) pa_nil))) ⟨rfl, rfl, rfl, rfl⟩))))), ?_⟩)
  · obtain ⟨_, _, _, ⟨_, _, _, _, rfl, _⟩, _⟩ := h
    rfl
  · obtain ⟨M, P, hM, ⟨c, m, f, g, rfl, hc, rfl⟩, k⟩ := h
    refine s_ifN (b := decide (f < m.n)) (et_B (ev_methC hM (ev_o rfl) hc (by decide) (by decide) (by decide) (by decide) (ea_cons (ev_n (n := f) rfl) ea_nil) fun vs H1 e hv => ?_)) (fun hb H1 e1 => ?_) fun hb H1 e1 => ?_
    · match vs, hv with
      | [u], ⟨q1, _⟩ =>
        obtain rfl := Is.nat q1
        exact ⟨c, m, f, rfl, hc.mono (hid_mono e), rfl⟩
    · exact s_rk k e1 ((ev_some (ev_n rfl)).eq (by rw [mkOf, if_pos (of_decide_eq_true hb)]))
    · have hc1 := hc.mono (hid_mono e1)
      refine s_ifN (b := decide (g < m.n)) (et_B (ev_methC (hM.mono e1) (ev_o rfl) hc1 (by decide) (by decide) (by decide) (by decide) (ea_cons (ev_n (n := g) rfl) ea_nil) fun vs H1 e hv => ?_)) (fun hb' H2 e2 => ?_) fun hb' H2 e2 => ?_
      · match vs, hv with
        | [u], ⟨q1, _⟩ =>
          obtain rfl := Is.nat q1
          exact ⟨c, m, g, rfl, hc1.mono (hid_mono e), rfl⟩
      · exact s_rk k (e1.trans e2) ((ev_some (ev_n rfl)).eq (by rw [mkOf, if_neg (of_decide_eq_false hb), if_pos (of_decide_eq_true hb')]))
      · exact s_rk k (e1.trans e2) ((ev_made T (hM.mono (e1.trans e2)) (ev_o rfl) (hc1.mono (hid_mono e2)) (ev_n rfl) (ev_n rfl)).eq (by rw [mkOf, if_neg (of_decide_eq_false hb), if_neg (of_decide_eq_false hb')]))
end
end Im

namespace Im
open PySem PySem.Spec PyProof.Rows L2
section
variable {α β : Type} [Enc α] [Enc β] {K : PySem.W.Frag} {M : Addr → Prop} {σ : L2.St} {H H0 H1 H' : Hp} {ta tb te tl : TE} {tr : TA} {t : TT} {P : Pr} {D : Ends} {tu tw : TS} {g : TG} {src : List α} {l : Addr} {done : List β} {y : β} {n : Nat}
/-! ### loops that change nothing -/
theorem s_forP (h : Ev M tl σ H (.is src)) (S : Nat → L2.St → Prop) (hS : S 0 σ)
    (hs : ∀ i x v σ' H' N, Same H H' → src[i]? = some x → S i σ' → Is (hid M H') v x → (∀ σ2 H2, S (i + 1) σ2 → Same H' H2 → N σ2 H2) → g v σ' H' fun σ2 H2 => tu { D with nx := N, ct := N, bk := D.nx } σ2 H2)
    (hd : ∀ σ' H', Same H H' → S src.length σ' → D.nx σ' H') : tFor (iList K tl) g tu D σ H :=
  s_for h (fun Hs i σ' H' => S i σ' ∧ Same Hs H') (fun Hs e => ⟨hS, Same.refl _⟩) (fun Hs i σ' H' p => hid_mono p.2)
    (fun Hs i x v σ' H' e hx hv p => hs i x v σ' H' _ (e.trans p.2) hx p.1 hv fun σ2 H2 s e2 => ⟨s, p.2.trans e2⟩) fun Hs σ' H' e p => hd σ' H' (e.trans p.2) p.1
theorem s_forRP {j : Nat} (hn : EvA M tr σ H [.is n]) (hz : n ≤ 100000) (S : Nat → L2.St → Prop) (hS : S 0 σ)
    (hs : ∀ i σ' H' N, Same H H' → i < n → S i σ' → (∀ σ2 H2, S (i + 1) σ2 → Same H' H2 → N σ2 H2) → tu { D with nx := N, ct := N, bk := D.nx } (σ'.set j (some (.int (i : Nat)))) H')
    (hd : ∀ σ' H', Same H H' → S n σ' → D.nx σ' H') : tFor (iRng1 tr) (gName j) tu D σ H :=
  hn H (Same.refl H) _ fun ws H1 e1 hw => by
    obtain ⟨w, rfl, q⟩ := hw.one
    obtain rfl := Is.nat q
    have e0 : ((n : Int)).toNat = n := by omega
    refine ⟨(n : Int), rfl, by omega, by omega, ?_⟩
    rw [e0]
    refine for_range (lo := 0) (n := n) (fun i σ' H' => S i σ' ∧ Same H1 H') ⟨hS, Same.refl _⟩ (fun i σ' H' hi p => ?_) fun σ' H' p => hd σ' H' (e1.trans p.2) p.1
    have e2 : (0 : Int) + (i : Int) = (i : Int) := Int.zero_add _
    rw [e2]
    exact hs i σ' H' _ (e1.trans p.2) hi p.1 fun σ2 H2 s e => ⟨s, p.2.trans e⟩
/-! ### loops that fill a list -/
theorem s_appC {i : Nat} (c : Cw M H0 l done H') (hz : done.length < 1000000) (ha : σ[i]? = some (some (.ref l))) (h : Ev (also M l) te σ H' (.is y)) (k : ∀ H2, Cw M H0 l (done ++ [y]) H2 → Same (hid (also M l) H') (hid (also M l) H2) → D.nx σ H2) :
    tDrop (tBM K "list" rAppend (tVar i) (tCons te tNil)) D σ H' := by
  obtain ⟨ws, h1, h2⟩ := c.at_
  refine s_app (M := also M l) h1 (ev_o ha) h (by rw [h2.length]; omega) fun v H2 e hv => k _ (c.push e (e _ _ h1) (h2.mono (hid_mono e)) hv) ?_
  rw [hid_upd also_self]
  exact hid_mono e
theorem s_extC {i : Nat} {ys : List β} (c : Cw M H0 l done H') (hz : done.length + ys.length < 1000000) (ha : σ[i]? = some (some (.ref l))) (h : Ev (also M l) te σ H' (.is ys)) (k : ∀ H2, Cw M H0 l (done ++ ys) H2 → Same (hid (also M l) H') (hid (also M l) H2) → D.nx σ H2) :
    tDrop (tBM K "list" rExtend (tVar i) (tCons te tNil)) D σ H' := by
  obtain ⟨ws, h1, h2⟩ := c.at_
  refine s_ext (M := also M l) h1 (ev_o ha) h (by rw [h2.length]; omega) fun us H2 e hv => k _ (c.pushes e (h2.mono (hid_mono e)) hv) ?_
  rw [hid_upd also_self]
  exact hid_mono e
theorem s_forC (c0 : Cw M H0 l done H) (h : Ev (also M l) tl σ H (.is src)) (acc : Nat → List β) (ha : acc 0 = done) (S : Nat → L2.St → Prop) (hS : S 0 σ)
    (hs : ∀ i x v σ' H' N, Same (hid (also M l) H) (hid (also M l) H') → src[i]? = some x → S i σ' → Cw M H0 l (acc i) H' → Is (hid (also M l) H') v x → (∀ σ2 H2, S (i + 1) σ2 → Cw M H0 l (acc (i + 1)) H2 → Same (hid (also M l) H') (hid (also M l) H2) → N σ2 H2) → g v σ' H' fun σ2 H2 => tu { D with nx := N, ct := N, bk := D.nx } σ2 H2)
    (hd : ∀ σ' H', Same (hid (also M l) H) (hid (also M l) H') → S src.length σ' → Cw M H0 l (acc src.length) H' → D.nx σ' H') : tFor (iList K tl) g tu D σ H :=
  s_for h (fun Hs i σ' H' => S i σ' ∧ Cw M H0 l (acc i) H' ∧ Same (hid (also M l) Hs) (hid (also M l) H')) (fun Hs e => ⟨hS, by rw [ha]; exact c0.on e, Same.refl _⟩) (fun Hs i σ' H' p => p.2.2)
    (fun Hs i x v σ' H' e hx hv p => hs i x v σ' H' _ ((hid_mono e).trans p.2.2) hx p.1 p.2.1 hv fun σ2 H2 s c e2 => ⟨s, c, p.2.2.trans e2⟩) fun Hs σ' H' e p => hd σ' H' ((hid_mono e).trans p.2.2) p.1 p.2.1
theorem s_forRC {j : Nat} (c0 : Cw M H0 l done H) (hn : EvA (also M l) tr σ H [.is n]) (hz : n ≤ 100000) (acc : Nat → List β) (ha : acc 0 = done) (S : Nat → L2.St → Prop) (hS : S 0 σ)
    (hs : ∀ i σ' H' N, Same (hid (also M l) H) (hid (also M l) H') → i < n → S i σ' → Cw M H0 l (acc i) H' → (∀ σ2 H2, S (i + 1) σ2 → Cw M H0 l (acc (i + 1)) H2 → Same (hid (also M l) H') (hid (also M l) H2) → N σ2 H2) → tu { D with nx := N, ct := N, bk := D.nx } (σ'.set j (some (.int (i : Nat)))) H')
    (hd : ∀ σ' H', Same (hid (also M l) H) (hid (also M l) H') → S n σ' → Cw M H0 l (acc n) H' → D.nx σ' H') : tFor (iRng1 tr) (gName j) tu D σ H :=
  hn H (Same.refl H) _ fun ws H1 e1 hw => by
    obtain ⟨w, rfl, q⟩ := hw.one
    obtain rfl := Is.nat q
    have e0 : ((n : Int)).toNat = n := by omega
    refine ⟨(n : Int), rfl, by omega, by omega, ?_⟩
    rw [e0]
    refine for_range (lo := 0) (n := n) (fun i σ' H' => S i σ' ∧ Cw M H0 l (acc i) H' ∧ Same (hid (also M l) H1) (hid (also M l) H')) ⟨hS, by rw [ha]; exact c0.on e1, Same.refl _⟩ (fun i σ' H' hi p => ?_) fun σ' H' p => hd σ' H' ((hid_mono e1).trans p.2.2) p.1 p.2.1
    have e2 : (0 : Int) + (i : Int) = (i : Int) := Int.zero_add _
    rw [e2]
    exact hs i σ' H' _ ((hid_mono e1).trans p.2.2) hi p.1 p.2.1 fun σ2 H2 s c e => ⟨s, c, p.2.2.trans e⟩
/-! ### enumerate -/
theorem for_enum {a : Addr} {xs : List V} (Pv : Nat → L2.St → Hp → Prop) (h0 : Pv 0 σ H) (hl : ∀ i σ H, i ≤ xs.length → Pv i σ H → SqL K H a xs)
    (hs : ∀ i x T σ H, xs[i]? = some x → Pv i σ H → H T = none → g (.ref T) σ (upd H T (.tup [.int (i : Nat), x])) fun σ2 H2 => tu { D with nx := Pv (i + 1), ct := Pv (i + 1), bk := D.nx } σ2 H2) (hd : ∀ σ H, Pv xs.length σ H → D.nx σ H) :
    ∃ W : Nat → Nat → L2.St → Hp → Prop, (∃ m, W 0 m σ H) ∧ ∀ i m σ H, W i m σ H →
      ((Ite K a).stop i H ∧ D.nx σ H) ∨ ((Ite K a).go i H ∧ ∃ N : L2.St → Hp → Prop, (∀ σ' H', N σ' H' → ∃ m', m' < m ∧ W (i + 1) m' σ' H') ∧ ∀ x H', (Ite K a).yld i H x H' → g x σ H' fun σ2 H2 => tu { D with nx := N, ct := N, bk := D.nx } σ2 H2) := by
  refine ⟨fun i m σ H => m = xs.length - i ∧ i ≤ xs.length ∧ Pv i σ H, ⟨xs.length, by simp, Nat.zero_le _, h0⟩, ?_⟩
  rintro i m σ H ⟨rfl, hi, p⟩
  have q := hl i σ H hi p
  by_cases hlt : i < xs.length
  · refine .inr ⟨⟨xs, xs[i], q, by simp [hlt]⟩, Pv (i + 1), fun σ' H' p' => ⟨xs.length - (i + 1), by omega, rfl, hlt, p'⟩, fun x H' y => ?_⟩
    obtain ⟨T, z, e1, e2, e3, e4⟩ := y
    subst e1 e3
    exact hs i z T σ H (e4 xs q) p e2
  · have e : i = xs.length := by omega
    subst e
    exact .inl ⟨⟨xs, q, Nat.le_refl _⟩, hd σ H p⟩
/-- for k, x in enumerate(src): nothing is changed -/
theorem s_forEP {a b : Nat} (h : EvA M tr σ H [.is src]) (S : Nat → L2.St → Prop) (hS : S 0 σ)
    (hs : ∀ i x v σ' H' N, Same H H' → src[i]? = some x → S i σ' → Is (hid M H') v x → (∀ σ2 H2, S (i + 1) σ2 → Same H' H2 → N σ2 H2) → tu { D with nx := N, ct := N, bk := D.nx } ((σ'.set a (some (.int (i : Nat)))).set b (some v)) H')
    (hd : ∀ σ' H', Same H H' → S src.length σ' → D.nx σ' H') : tFor (iEnum K tr) (gTup K 2 (gCons (gName a) (gCons (gName b) gNil))) tu D σ H :=
  h H (Same.refl H) _ fun ws H1 e1 hw => by
    obtain ⟨w, rfl, q⟩ := hw.one
    obtain ⟨r, us, rfl, h1, h2⟩ := Is.list q
    have z := h2.length
    refine ⟨r, us, rfl, SqL.of (hid_sub _ _ h1), for_enum (xs := us) (fun i σ' H' => S i σ' ∧ Same H1 H') ⟨hS, Same.refl _⟩ (fun i σ' H' _ p => SqL.of (hid_sub _ _ (hid_mono p.2 _ _ h1))) (fun i v T σ' H' hi p hT => ?_) fun σ' H' p => hd σ' H' (e1.trans p.2) (by rw [← z]; exact p.1)⟩
    obtain ⟨x, hx, hv⟩ := (h2.mono (hid_mono p.2)).get hi
    refine ⟨T, _, rfl, SqT.of upd_same, rfl, ?_⟩
    refine ⟨_, _, rfl, _, _, rfl, rfl, ?_⟩
    exact hs i x v σ' _ _ ((e1.trans p.2).trans (same_new hT)) hx p.1 (hv.mono (hid_mono (same_new hT))) fun σ2 H2 s e => ⟨s, (p.2.trans (same_new hT)).trans e⟩
theorem s_forEC {a b : Nat} (c0 : Cw M H0 l done H) (h : EvA (also M l) tr σ H [.is src]) (acc : Nat → List β) (ha : acc 0 = done) (S : Nat → L2.St → Prop) (hS : S 0 σ)
    (hs : ∀ i x v σ' H' N, Same (hid (also M l) H) (hid (also M l) H') → src[i]? = some x → S i σ' → Cw M H0 l (acc i) H' → Is (hid (also M l) H') v x → (∀ σ2 H2, S (i + 1) σ2 → Cw M H0 l (acc (i + 1)) H2 → Same (hid (also M l) H') (hid (also M l) H2) → N σ2 H2) → tu { D with nx := N, ct := N, bk := D.nx } ((σ'.set a (some (.int (i : Nat)))).set b (some v)) H')
    (hd : ∀ σ' H', Same (hid (also M l) H) (hid (also M l) H') → S src.length σ' → Cw M H0 l (acc src.length) H' → D.nx σ' H') : tFor (iEnum K tr) (gTup K 2 (gCons (gName a) (gCons (gName b) gNil))) tu D σ H :=
  h H (Same.refl H) _ fun ws H1 e1 hw => by
    obtain ⟨w, rfl, q⟩ := hw.one
    obtain ⟨r, us, rfl, h1, h2⟩ := Is.list q
    have z := h2.length
    refine ⟨r, us, rfl, SqL.of (hid_sub _ _ h1), for_enum (xs := us) (fun i σ' H' => S i σ' ∧ Cw M H0 l (acc i) H' ∧ Same (hid (also M l) H1) (hid (also M l) H')) ⟨hS, by rw [ha]; exact c0.on e1, Same.refl _⟩ (fun i σ' H' _ p => SqL.of (hid_sub _ _ (p.2.2 _ _ h1))) (fun i v T σ' H' hi p hT => ?_) fun σ' H' p => hd σ' H' ((hid_mono e1).trans p.2.2) (by rw [← z]; exact p.1) (by rw [← z]; exact p.2.1)⟩
    obtain ⟨x, hx, hv⟩ := (h2.mono p.2.2).get hi
    refine ⟨T, _, rfl, SqT.of upd_same, rfl, ?_⟩
    refine ⟨_, _, rfl, _, _, rfl, rfl, ?_⟩
    have e5 : Same H' (upd H' T (.tup [.int (i : Nat), v])) := same_new hT
    exact hs i x v σ' _ _ (((hid_mono e1).trans p.2.2).trans (hid_mono e5)) hx p.1 (p.2.1.on e5) (hv.mono (hid_mono e5)) fun σ2 H2 s c e => ⟨s, c, (p.2.2.trans (hid_mono e5)).trans e⟩
/-- a new list: hidden at once -/
theorem cw_new (hM : Tr M H) (hl : H l = none) : Cw M H l ([] : List β) (upd H l (.lst [])) := Cw.start
end

section
variable {α β : Type} [Enc α] [Enc β] {K : PySem.W.Frag} {M : Addr → Prop} {σ : L2.St} {H H0 H1 H' : Hp} {ta tb te tl : TE} {tr : TA} {t : TT} {P : Pr} {D : Ends} {tu rest : TS} {g : TG} {src : List α} {l : Addr} {done : List β} {y : β} {n : Nat}
theorem s_forPS (h : Ev M tl σ H (.is src)) (S : Nat → L2.St → Prop) (hS : S 0 σ)
    (hs : ∀ i x v σ' H' N, Same H H' → src[i]? = some x → S i σ' → Is (hid M H') v x → (∀ σ2 H2, S (i + 1) σ2 → Same H' H2 → N σ2 H2) → g v σ' H' fun σ2 H2 => tu { D with nx := N, ct := N, bk := rest D } σ2 H2)
    (hd : ∀ σ' H', Same H H' → S src.length σ' → rest D σ' H') : tSeq (tFor (iList K tl) g tu) rest D σ H :=
  s_forP (D := { D with nx := rest D }) h S hS hs hd
theorem s_forRPS {j : Nat} (hn : EvA M tr σ H [.is n]) (hz : n ≤ 100000) (S : Nat → L2.St → Prop) (hS : S 0 σ)
    (hs : ∀ i σ' H' N, Same H H' → i < n → S i σ' → (∀ σ2 H2, S (i + 1) σ2 → Same H' H2 → N σ2 H2) → tu { D with nx := N, ct := N, bk := rest D } (σ'.set j (some (.int (i : Nat)))) H')
    (hd : ∀ σ' H', Same H H' → S n σ' → rest D σ' H') : tSeq (tFor (iRng1 tr) (gName j) tu) rest D σ H :=
  s_forRP (D := { D with nx := rest D }) hn hz S hS hs hd
theorem s_forCS (c0 : Cw M H0 l done H) (h : Ev (also M l) tl σ H (.is src)) (acc : Nat → List β) (ha : acc 0 = done) (S : Nat → L2.St → Prop) (hS : S 0 σ)
    (hs : ∀ i x v σ' H' N, Same (hid (also M l) H) (hid (also M l) H') → src[i]? = some x → S i σ' → Cw M H0 l (acc i) H' → Is (hid (also M l) H') v x → (∀ σ2 H2, S (i + 1) σ2 → Cw M H0 l (acc (i + 1)) H2 → Same (hid (also M l) H') (hid (also M l) H2) → N σ2 H2) → g v σ' H' fun σ2 H2 => tu { D with nx := N, ct := N, bk := rest D } σ2 H2)
    (hd : ∀ σ' H', Same (hid (also M l) H) (hid (also M l) H') → S src.length σ' → Cw M H0 l (acc src.length) H' → rest D σ' H') : tSeq (tFor (iList K tl) g tu) rest D σ H :=
  s_forC (D := { D with nx := rest D }) c0 h acc ha S hS hs hd
theorem s_forRCS {j : Nat} (c0 : Cw M H0 l done H) (hn : EvA (also M l) tr σ H [.is n]) (hz : n ≤ 100000) (acc : Nat → List β) (ha : acc 0 = done) (S : Nat → L2.St → Prop) (hS : S 0 σ)
    (hs : ∀ i σ' H' N, Same (hid (also M l) H) (hid (also M l) H') → i < n → S i σ' → Cw M H0 l (acc i) H' → (∀ σ2 H2, S (i + 1) σ2 → Cw M H0 l (acc (i + 1)) H2 → Same (hid (also M l) H') (hid (also M l) H2) → N σ2 H2) → tu { D with nx := N, ct := N, bk := rest D } (σ'.set j (some (.int (i : Nat)))) H')
    (hd : ∀ σ' H', Same (hid (also M l) H) (hid (also M l) H') → S n σ' → Cw M H0 l (acc n) H' → rest D σ' H') : tSeq (tFor (iRng1 tr) (gName j) tu) rest D σ H :=
  s_forRC (D := { D with nx := rest D }) c0 hn hz acc ha S hS hs hd
theorem s_forEPS {a b : Nat} (h : EvA M tr σ H [.is src]) (S : Nat → L2.St → Prop) (hS : S 0 σ)
    (hs : ∀ i x v σ' H' N, Same H H' → src[i]? = some x → S i σ' → Is (hid M H') v x → (∀ σ2 H2, S (i + 1) σ2 → Same H' H2 → N σ2 H2) → tu { D with nx := N, ct := N, bk := rest D } ((σ'.set a (some (.int (i : Nat)))).set b (some v)) H')
    (hd : ∀ σ' H', Same H H' → S src.length σ' → rest D σ' H') : tSeq (tFor (iEnum K tr) (gTup K 2 (gCons (gName a) (gCons (gName b) gNil))) tu) rest D σ H :=
  s_forEP (D := { D with nx := rest D }) h S hS hs hd
theorem s_forECS {a b : Nat} (c0 : Cw M H0 l done H) (h : EvA (also M l) tr σ H [.is src]) (acc : Nat → List β) (ha : acc 0 = done) (S : Nat → L2.St → Prop) (hS : S 0 σ)
    (hs : ∀ i x v σ' H' N, Same (hid (also M l) H) (hid (also M l) H') → src[i]? = some x → S i σ' → Cw M H0 l (acc i) H' → Is (hid (also M l) H') v x → (∀ σ2 H2, S (i + 1) σ2 → Cw M H0 l (acc (i + 1)) H2 → Same (hid (also M l) H') (hid (also M l) H2) → N σ2 H2) → tu { D with nx := N, ct := N, bk := rest D } ((σ'.set a (some (.int (i : Nat)))).set b (some v)) H')
    (hd : ∀ σ' H', Same (hid (also M l) H) (hid (also M l) H') → S src.length σ' → Cw M H0 l (acc src.length) H' → rest D σ' H') : tSeq (tFor (iEnum K tr) (gTup K 2 (gCons (gName a) (gCons (gName b) gNil))) tu) rest D σ H :=
  s_forEC (D := { D with nx := rest D }) c0 h acc ha S hS hs hd
end

/-! ### loops whose state speaks of the heap -/
section
variable {α β : Type} [Enc α] [Enc β] {K : PySem.W.Frag} {M : Addr → Prop} {σ : L2.St} {H H0 H1 H' : Hp} {tl : TE} {tr : TA} {D : Ends} {tu rest : TS} {g : TG} {src : List α}
theorem s_forQS (h : Ev M tl σ H (.is src)) (S : Nat → L2.St → Hp → Prop) (hS : ∀ H1, Same H H1 → S 0 σ H1)
    (hs : ∀ i x v σ' H' N, Same H H' → src[i]? = some x → S i σ' H' → Is (hid M H') v x → (∀ σ2 H2, S (i + 1) σ2 H2 → Same H' H2 → N σ2 H2) → g v σ' H' fun σ2 H2 => tu { D with nx := N, ct := N, bk := rest D } σ2 H2)
    (hd : ∀ σ' H', Same H H' → S src.length σ' H' → rest D σ' H') : tSeq (tFor (iList K tl) g tu) rest D σ H :=
  s_for (D := { D with nx := rest D }) h (fun Hs i σ' H' => S i σ' H' ∧ Same Hs H') (fun Hs e => ⟨hS Hs e, Same.refl _⟩) (fun Hs i σ' H' p => hid_mono p.2)
    (fun Hs i x v σ' H' e hx hv p => hs i x v σ' H' _ (e.trans p.2) hx p.1 hv fun σ2 H2 s e2 => ⟨s, p.2.trans e2⟩) fun Hs σ' H' e p => hd σ' H' (e.trans p.2) p.1
theorem s_forEQS {a b : Nat} (h : EvA M tr σ H [.is src]) (S : Nat → L2.St → Hp → Prop) (hS : ∀ H1, Same H H1 → S 0 σ H1)
    (hs : ∀ i x v σ' H' H1 N, Same H H' → Same H' H1 → src[i]? = some x → S i σ' H' → Is (hid M H1) v x → (∀ σ2 H2, S (i + 1) σ2 H2 → Same H1 H2 → N σ2 H2) → tu { D with nx := N, ct := N, bk := rest D } ((σ'.set a (some (.int (i : Nat)))).set b (some v)) H1)
    (hd : ∀ σ' H', Same H H' → S src.length σ' H' → rest D σ' H') : tSeq (tFor (iEnum K tr) (gTup K 2 (gCons (gName a) (gCons (gName b) gNil))) tu) rest D σ H :=
  h H (Same.refl H) _ fun ws H1 e1 hw => by
    obtain ⟨w, rfl, q⟩ := hw.one
    obtain ⟨r, us, rfl, h1, h2⟩ := Is.list q
    have z := h2.length
    refine ⟨r, us, rfl, SqL.of (hid_sub _ _ h1), for_enum (D := { D with nx := rest D }) (xs := us) (fun i σ' H' => S i σ' H' ∧ Same H1 H') ⟨hS _ e1, Same.refl _⟩ (fun i σ' H' _ p => SqL.of (hid_sub _ _ (hid_mono p.2 _ _ h1))) (fun i v T σ' H' hi p hT => ?_) fun σ' H' p => hd σ' H' (e1.trans p.2) (by rw [← z]; exact p.1)⟩
    obtain ⟨x, hx, hv⟩ := (h2.mono (hid_mono p.2)).get hi
    refine ⟨T, _, rfl, SqT.of upd_same, rfl, ?_⟩
    refine ⟨_, _, rfl, _, _, rfl, rfl, ?_⟩
    exact hs i x v σ' H' _ _ (e1.trans p.2) (same_new hT) hx p.1 (hv.mono (hid_mono (same_new hT))) fun σ2 H2 s e => ⟨s, (p.2.trans (same_new hT)).trans e⟩
end
/-! ### what the methods give, in short -/
section
variable {K : PySem.W.Frag} {mg : Str → Option Value} {CC CI CL WN c i : Addr} {m : Fc05.Cat} {t : Fc05.Inst} {M : Addr → Prop} {σ : L2.St} {H : Hp} {ta tx ty tz : TE} {f g x r : Nat}
theorem ev_arrow_count (hM : Tr M H) (ho : Ev M ta σ H (.val (.ref c))) (hc : CatAt CC (hid M H) c m) : Ev M (tMeth CC "arrow_count" (sp_arrow_count CC CI CL) [] E0 ta tNil) σ H (.is m.arrows.length) :=
  ev_methC hM ho hc (by decide) (by decide) (by decide) (by decide) ea_nil fun vs H1 e hv => by
    obtain rfl := hv.nil
    exact ⟨c, m, rfl, hc.mono (hid_mono e), rfl⟩
theorem ev_is_own (hM : Tr M H) (ho : Ev M ta σ H (.val (.ref c))) (hc : CatAt CC (hid M H) c m) (hf : Ev M tx σ H (.is f)) : Ev M (tMeth CC "is_own" (sp_is_own CC CI CL) [] E0 ta (tCons tx tNil)) σ H (.is (decide (f < m.n))) :=
  ev_methC hM ho hc (by decide) (by decide) (by decide) (by decide) (ea_cons hf ea_nil) fun vs H1 e hv => by
    obtain ⟨u, rfl, q⟩ := hv.one
    obtain rfl := Is.nat q
    exact ⟨c, m, f, rfl, hc.mono (hid_mono e), rfl⟩
theorem ev_told_arrows (hM : Tr M H) (ho : Ev M ta σ H (.val (.ref c))) (hc : CatAt CC (hid M H) c m) (h8 : m.arrows.length ≤ 8) (hn : m.n ≤ m.arrows.length) : Ev M (tMeth CC "told_arrows" (sp_told_arrows CC CI CL) [] E0 ta tNil) σ H (.is (told m)) :=
  ev_methC hM ho hc (by decide) (by decide) (by decide) (by decide) ea_nil fun vs H1 e hv => by
    obtain rfl := hv.nil
    exact ⟨c, m, rfl, hc.mono (hid_mono e), h8, hn, rfl⟩
theorem ev_arrows_from (hM : Tr M H) (ho : Ev M ta σ H (.val (.ref c))) (hc : CatAt CC (hid M H) c m) (h8 : m.arrows.length ≤ 8) (hf : Ev M tx σ H (.is x)) : Ev M (tMeth CC "arrows_from" (sp_arrows_from CC CI CL) [] E0 ta (tCons tx tNil)) σ H (.is (arrowsFrom m x)) :=
  ev_methC hM ho hc (by decide) (by decide) (by decide) (by decide) (ea_cons hf ea_nil) fun vs H1 e hv => by
    obtain ⟨u, rfl, q⟩ := hv.one
    obtain rfl := Is.nat q
    exact ⟨c, m, x, rfl, hc.mono (hid_mono e), h8, rfl⟩
theorem ev_do_meet (hM : Tr M H) (ho : Ev M ta σ H (.val (.ref c))) (hc : CatAt CC (hid M H) c m) (h1 : f < m.arrows.length) (h2 : g < m.arrows.length) (hf : Ev M tx σ H (.is f)) (hg : Ev M ty σ H (.is g)) : Ev M (tMeth CC "do_meet" (sp_do_meet CC CI CL) [] E0 ta (tCons tx (tCons ty tNil))) σ H (.is (decide (Fc05.to_ m f = Fc05.from_ m g))) :=
  ev_methC hM ho hc (by decide) (by decide) (by decide) (by decide) (ea_cons hf (ea_cons hg ea_nil)) fun vs H1 e hv => by
    obtain ⟨u, w, rfl, q, q'⟩ := hv.two
    obtain rfl := Is.nat q
    obtain rfl := Is.nat q'
    exact ⟨c, m, f, g, rfl, hc.mono (hid_mono e), h1, h2, rfl⟩
theorem ev_what_make (hM : Tr M H) (ho : Ev M ta σ H (.val (.ref c))) (hc : CatAt CC (hid M H) c m) (hf : Ev M tx σ H (.is f)) (hg : Ev M ty σ H (.is g)) : Ev M (tMeth CC "what_make" (sp_what_make CC CI CL) [] E0 ta (tCons tx (tCons ty tNil))) σ H (.is (mkOf m f g)) :=
  ev_methC hM ho hc (by decide) (by decide) (by decide) (by decide) (ea_cons hf (ea_cons hg ea_nil)) fun vs H1 e hv => by
    obtain ⟨u, w, rfl, q, q'⟩ := hv.two
    obtain rfl := Is.nat q
    obtain rfl := Is.nat q'
    exact ⟨c, m, f, g, rfl, hc.mono (hid_mono e), rfl⟩
end
end Im

namespace Im
open PySem PySem.Spec PyProof.Rows L2
theorem g_pair {K : PySem.W.Frag} {G H : Hp} {v : V} {x y a b : Nat} {σ : L2.St} {R : L2.St → Hp → Prop} (e : Same G H) (h : Is G v (x, y)) (k : R ((σ.set a (some (.int (x : Nat)))).set b (some (.int (y : Nat)))) H) : gTup K 2 (gCons (gName a) (gCons (gName b) gNil)) v σ H R := by
  obtain ⟨t, u, w, rfl, h1, h2, h3⟩ := Is.pair h
  obtain rfl := Is.nat h2
  obtain rfl := Is.nat h3
  exact ⟨t, _, rfl, SqT.of (e _ _ h1), rfl, _, _, rfl, _, _, rfl, rfl, k⟩
structure CatOk (m : Fc05.Cat) : Prop where
  pos : 1 ≤ m.n
  three : m.n ≤ 3
  eight : m.arrows.length ≤ 8
  nle : m.n ≤ m.arrows.length
  own : ∀ f, f < m.n → m.arrows[f]? = some (f, f)
  lt : ∀ a ∈ m.arrows, a.1 < m.n ∧ a.2 < m.n
  mks : ∀ x ∈ m.makes, x.2 < m.arrows.length
section
variable {m : Fc05.Cat}
theorem told_mem {f : Nat} : f ∈ told m ↔ m.n ≤ f ∧ f < m.arrows.length := by
  unfold told Fc05.all
  rw [List.mem_filter, List.mem_range]
  simp
  omega
theorem madeOf_lt (ok : CatOk m) {f g h : Nat} (e : madeOf m.makes f g = some h) : h < m.arrows.length := by
  unfold madeOf at e
  obtain ⟨x, h1, rfl⟩ := Option.map_eq_some_iff.mp e
  exact ok.mks x (List.mem_of_find?_eq_some h1)
theorem mkOf_lt (ok : CatOk m) {f g h : Nat} (hf : f < m.arrows.length) (hg : g < m.arrows.length) (e : mkOf m f g = some h) : h < m.arrows.length := by
  unfold mkOf at e
  split at e
  · obtain rfl := Option.some.inj e
    exact hg
  · split at e
    · obtain rfl := Option.some.inj e
      exact hf
    · exact madeOf_lt ok e
def pairs (m : Fc05.Cat) : List (Nat × Nat) := (told m).flatMap fun f => ((told m).filter fun g => decide (Fc05.to_ m f = Fc05.from_ m g)).map fun g => (f, g)
theorem pairs_mem {f g : Nat} : (f, g) ∈ pairs m ↔ f ∈ told m ∧ g ∈ told m ∧ Fc05.to_ m f = Fc05.from_ m g := by
  unfold pairs
  simp only [List.mem_flatMap, List.mem_map, List.mem_filter, decide_eq_true_eq, Prod.mk.injEq]
  constructor
  · rintro ⟨a, h1, b, ⟨h2, h3⟩, rfl, rfl⟩
    exact ⟨h1, h2, h3⟩
  · rintro ⟨h1, h2, h3⟩
    exact ⟨f, h1, g, ⟨h2, h3⟩, rfl, rfl⟩
theorem told_len (ok : CatOk m) : (told m).length ≤ 8 := by
  unfold told Fc05.all
  have h := List.length_filter_le (fun f => decide (m.n ≤ f)) (List.range m.arrows.length)
  rw [List.length_range] at h
  have := ok.eight
  omega
def fits (m : Fc05.Cat) (f g : Nat) : Bool := match mkOf m f g with
  | none => false
  | some h => decide (Fc05.from_ m h = Fc05.from_ m f) && decide (Fc05.to_ m h = Fc05.to_ m g)
def sameB (m : Fc05.Cat) (f g h : Nat) : Bool := decide ((mkOf m f g).bind (fun a => mkOf m a h) = (mkOf m g h).bind fun b => mkOf m f b)
def catB (m : Fc05.Cat) : Bool := ((pairs m).all fun p => fits m p.1 p.2) && (pairs m).all fun p => (told m).all fun h => !decide (Fc05.to_ m p.2 = Fc05.from_ m h) || sameB m p.1 p.2 h
theorem tk_more {α : Type} {l : List α} {i : Nat} {x : α} (h : l[i]? = some x) : l.take (i + 1) = l.take i ++ [x] := by
  rw [List.take_add_one, h]
  rfl
/-- a fold over a list, as its turns go on -/
theorem flatMap_take {α β : Type} {l : List α} {i : Nat} {x : α} {f : α → List β} (h : l[i]? = some x) : (l.take (i + 1)).flatMap f = (l.take i).flatMap f ++ f x := by
  rw [tk_more h, List.flatMap_append]
  simp
theorem filter_take {α : Type} {l : List α} {i : Nat} {x : α} {f : α → Bool} (h : l[i]? = some x) : (l.take (i + 1)).filter f = if f x = true then (l.take i).filter f ++ [x] else (l.take i).filter f := by
  rw [tk_more h, List.filter_append]
  by_cases k : f x = true
  · rw [if_pos k, List.filter_cons, if_pos k]
    rfl
  · rw [if_neg k, List.filter_cons, if_neg k]
    exact List.append_nil _
theorem flatMap_len {α β : Type} (l : List α) (f : α → List β) (n : Nat) (h : ∀ x ∈ l, (f x).length ≤ n) : (l.flatMap f).length ≤ l.length * n := by
  induction l with
  | nil => simp
  | cons a l ih =>
    rw [List.flatMap_cons, List.length_append, List.length_cons, Nat.succ_mul]
    have h1 := h a (List.mem_cons_self ..)
    have h2 := ih fun x hx => h x (List.mem_cons_of_mem _ hx)
    omega
theorem take_sub {α : Type} {l : List α} {i : Nat} : (l.take i).length ≤ l.length := by
  rw [List.length_take]
  omega
theorem pairs_part (ok : CatOk m) (l : List Nat) (hl : l.length ≤ 8) : (l.flatMap fun f => ((told m).filter fun g => decide (Fc05.to_ m f = Fc05.from_ m g)).map fun g => (f, g)).length ≤ 64 := by
  have := flatMap_len l (fun f => ((told m).filter fun g => decide (Fc05.to_ m f = Fc05.from_ m g)).map fun g => (f, g)) 8 fun x _ => by
    rw [List.length_map]
    have := List.length_filter_le (fun g => decide (Fc05.to_ m x = Fc05.from_ m g)) (told m)
    have := told_len ok
    omega
  omega
end
def sp_meeting_pairs (CC CI CL : Addr) : Sp := SpP fun vs G P => ∃ c m, vs = [.ref c] ∧ CatAt CC G c m ∧ CatOk m ∧ P = .is (pairs m)
def sp_makes_fit (CC CI CL : Addr) : Sp := SpP fun vs G P => ∃ (c : Addr) (m : Fc05.Cat) (f g : Nat), vs = [.ref c, .int f, .int g] ∧ CatAt CC G c m ∧ CatOk m ∧ f < m.arrows.length ∧ g < m.arrows.length ∧ P = .is (fits m f g)
def sp_is_same_taken (CC CI CL : Addr) : Sp := SpP fun vs G P => ∃ (c : Addr) (m : Fc05.Cat) (f g h a b u w : Nat), vs = [.ref c, .int f, .int g, .int h] ∧ CatAt CC G c m ∧ mkOf m f g = some a ∧ mkOf m g h = some b ∧ mkOf m a h = some u ∧ mkOf m f b = some w ∧ P = .is (decide (u = w))
def sp_is_category (CC CI CL : Addr) : Sp := SpP fun vs G P => ∃ c m, vs = [.ref c] ∧ CatAt CC G c m ∧ CatOk m ∧ P = .is (catB m)
section
variable {K : PySem.W.Frag} {mg : Str → Option Value} {CC CI CL WN c i : Addr} {m : Fc05.Cat} {t : Fc05.Inst} {M : Addr → Prop} {σ : L2.St} {H : Hp} {ta tx ty tz : TE} {f g h x r : Nat}
theorem ev_meeting_pairs (hM : Tr M H) (ho : Ev M ta σ H (.val (.ref c))) (hc : CatAt CC (hid M H) c m) (ok : CatOk m) : Ev M (tMeth CC "meeting_pairs" (sp_meeting_pairs CC CI CL) [] E0 ta tNil) σ H (.is (pairs m)) :=
  ev_methC hM ho hc (by decide) (by decide) (by decide) (by decide) ea_nil fun vs H1 e hv => by
    obtain rfl := hv.nil
    exact ⟨c, m, rfl, hc.mono (hid_mono e), ok, rfl⟩
theorem ev_is_category (hM : Tr M H) (ho : Ev M ta σ H (.val (.ref c))) (hc : CatAt CC (hid M H) c m) (ok : CatOk m) : Ev M (tMeth CC "is_category" (sp_is_category CC CI CL) [] E0 ta tNil) σ H (.is (catB m)) :=
  ev_methC hM ho hc (by decide) (by decide) (by decide) (by decide) ea_nil fun vs H1 e hv => by
    obtain rfl := hv.nil
    exact ⟨c, m, rfl, hc.mono (hid_mono e), ok, rfl⟩
theorem ev_makes_fit (hM : Tr M H) (ho : Ev M ta σ H (.val (.ref c))) (hc : CatAt CC (hid M H) c m) (ok : CatOk m) (h1 : f < m.arrows.length) (h2 : g < m.arrows.length) (hf : Ev M tx σ H (.is f)) (hg : Ev M ty σ H (.is g)) : Ev M (tMeth CC "makes_fit" (sp_makes_fit CC CI CL) [] E0 ta (tCons tx (tCons ty tNil))) σ H (.is (fits m f g)) :=
  ev_methC hM ho hc (by decide) (by decide) (by decide) (by decide) (ea_cons hf (ea_cons hg ea_nil)) fun vs H1 e hv => by
    obtain ⟨u, w, rfl, q, q'⟩ := hv.two
    obtain rfl := Is.nat q
    obtain rfl := Is.nat q'
    exact ⟨c, m, f, g, rfl, hc.mono (hid_mono e), ok, h1, h2, rfl⟩
theorem ev_is_same_taken {a b u w : Nat} (hM : Tr M H) (ho : Ev M ta σ H (.val (.ref c))) (hc : CatAt CC (hid M H) c m) (h1 : mkOf m f g = some a) (h2 : mkOf m g h = some b) (h3 : mkOf m a h = some u) (h4 : mkOf m f b = some w) (hf : Ev M tx σ H (.is f)) (hg : Ev M ty σ H (.is g)) (hh : Ev M tz σ H (.is h)) :
    Ev M (tMeth CC "is_same_taken" (sp_is_same_taken CC CI CL) [] E0 ta (tCons tx (tCons ty (tCons tz tNil)))) σ H (.is (decide (u = w))) :=
  ev_methC hM ho hc (by decide) (by decide) (by decide) (by decide) (ea_cons hf (ea_cons hg (ea_cons hh ea_nil))) fun vs H1 e hv => by
    obtain ⟨u', w', z', rfl, q, q', q''⟩ := hv.three
    obtain rfl := Is.nat q
    obtain rfl := Is.nat q'
    obtain rfl := Is.nat q''
    exact ⟨c, m, f, g, h, a, b, u, w, rfl, hc.mono (hid_mono e), h1, h2, h3, h4, rfl⟩
theorem Ev.ofSome {te : TE} {n : Nat} (h : Ev M te σ H (.is (some n))) : Ev M te σ H (.is n) := h.imp fun u H1 e hu => by
  obtain rfl := Is.some hu
  exact is_nat
end
theorem ev_what_makeS {CC CI CL c : Addr} {m : Fc05.Cat} {M : Addr → Prop} {σ : L2.St} {H : Hp} {ta tx ty : TE} {f g a : Nat} (hM : Tr M H) (ho : Ev M ta σ H (.val (.ref c))) (hc : CatAt CC (hid M H) c m) (hm : mkOf m f g = some a) (hf : Ev M tx σ H (.is f)) (hg : Ev M ty σ H (.is g)) : Ev M (tMeth CC "what_make" (sp_what_make CC CI CL) [] E0 ta (tCons tx (tCons ty tNil))) σ H (.is a) := by
  have h := ev_what_make (CI := CI) (CL := CL) hM ho hc hf hg
  rw [hm] at h
  exact h.ofSome
section
variable {P : Program} {w : World} {K : PySem.W.Frag} {mg : Str → Option Value} {base : Heap} {CC CI CL WN : Addr}
theorem ok_meeting_pairs {f : Addr} {fd : FuncData} (F : Fun K "meeting_pairs" "Category.meeting_pairs" s_meeting_pairs f fd) (T : Txt K mg CC CI CL WN) (g_told_arrows : MetOk P w K mg base CC 1 "told_arrows" ["self"] (sp_told_arrows CC CI CL)) (g_do_meet : MetOk P w K mg base CC 1 "do_meet" ["self", "f", "g"] (sp_do_meet CC CI CL)) : FnOk P w K mg base CX0 2 f fd ["self"] (sp_meeting_pairs CC CI CL) := by
  refine F.ok sc_meeting_pairs (fun vs H Q E h => ?_) (fun cdv A outer s H vs Q E hr h => ⟨_, (pss_cons (ps_set (i := 1) sc_meeting_pairs.nd rfl (Or.inl rfl) (pe_lst pa_nil))
    (pss_cons (ps_for PassesOwn.never rfl (pi_list (pe_methD0 (pv 0) T.cCC g_told_arrows (hr.mono (by decide)))) (pg_name (i := 2) sc_meeting_pairs.nd rfl (Or.inl rfl)) (pss_one (ps_for PassesOwn.never rfl (pi_list (pe_methD0 (pv 0) T.cCC g_told_arrows (hr.mono (by decide)))) (pg_name (i := 3) sc_meeting_pairs.nd rfl (Or.inl rfl)) (pss_one (ps_if (pt_val (pe_methD (pv 0) T.cCC g_do_meet (hr.mono (by decide)) (pa_cons (pv 2) (pa_cons (pv 3) pa_nil)))) (pss_one (ps_expr (pe_bm PySem.F.plainAttrs_list PySem.F.slot_list_append PySem.F.type_list_append mt_append (pv 1) (pa_cons (pe_tup (pa_cons (pv 2) (pa_cons (pv 3) pa_nil))) pa_nil)))) pss_nil)))))
    (pss_one (ps_ret (pv 1))))), ?_⟩)
  · obtain ⟨_, _, _, ⟨_, _, rfl, _⟩, _⟩ := h
    rfl
  · obtain ⟨M, P, hM, ⟨c, m, rfl, hc, ok, rfl⟩, k⟩ := h
    refine s_seq (s_new fun l hl => ?_)
    have c0 : Cw M H l ([] : List (Nat × Nat)) (upd H l (.lst [])) := Cw.start
    refine s_forCS (acc := fun i => ((told m).take i).flatMap fun f => ((told m).filter fun g => decide (Fc05.to_ m f = Fc05.from_ m g)).map fun g => (f, g)) c0 (ev_told_arrows (c0.le hM hl).tr (ev_o rfl) (hc.mono (c0.le hM hl).same) ok.eight ok.nle) rfl
      (fun _ σ' => ∃ u w, σ' = [some (.ref c), some (.ref l), u, w]) ⟨_, _, rfl⟩ ?_ ?_
    · rintro i f v σ' H' N e hf ⟨u, w, rfl⟩ cw hv nx
      obtain rfl := Is.nat hv
      have le := cw.le hM hl
      have ft := told_mem.mp (List.mem_of_getElem? hf)
      have a1 := pairs_part ok ((told m).take i) (Nat.le_trans take_sub (told_len ok))
      refine s_forC (acc := fun j => (((told m).take i).flatMap fun f => ((told m).filter fun g => decide (Fc05.to_ m f = Fc05.from_ m g)).map fun g => (f, g)) ++ (((told m).take j).filter fun g => decide (Fc05.to_ m f = Fc05.from_ m g)).map fun g => (f, g)) cw
        (ev_told_arrows le.tr (ev_o rfl) (hc.mono le.same) ok.eight ok.nle) (List.append_nil _) (fun _ σ' => ∃ w, σ' = [some (.ref c), some (.ref l), some (.int f), w]) ⟨_, rfl⟩ ?_ ?_
      · rintro j g v σ' H2 N' e2 hg ⟨w, rfl⟩ cw2 hv2 nx2
        obtain rfl := Is.nat hv2
        have le2 := cw2.le hM hl
        have gt := told_mem.mp (List.mem_of_getElem? hg)
        have fm := fm_more (f := fun g => (f, g)) (keep := fun g => decide (Fc05.to_ m f = Fc05.from_ m g)) hg
        refine s_if (et_B (ev_do_meet le2.tr (ev_o rfl) (hc.mono le2.same) ft.2 gt.2 (ev_n rfl) (ev_n rfl))) (fun hb H3 e3 => ?_) fun hb H3 e3 => ?_
        · have cw3 := cw2.on e3
          refine s_appC cw3 ?_ rfl (ev_tup (tr := tNil) (cw3.le hM hl).tr (ev_n rfl) (ev_n rfl)) fun H4 cw4 e4 => nx2 _ _ ⟨_, rfl⟩ ?_ ((hid_mono e3).trans e4)
          · have a2 := fm_len (l := told m) (i := j) (keep := fun g => decide (Fc05.to_ m f = Fc05.from_ m g)) (f := fun g => (f, g))
            have a3 := told_len ok
            rw [List.length_append]
            omega
          · show Cw M H l (_ ++ _) H4
            rw [fm, if_pos hb, ← List.append_assoc]
            exact cw4
        · refine nx2 _ _ ⟨_, rfl⟩ ?_ (hid_mono e3)
          show Cw M H l (_ ++ _) H3
          rw [fm, if_neg (by rw [hb]; exact Bool.false_ne_true)]
          exact cw2.on e3
      · rintro σ' H2 e2 ⟨w, rfl⟩ cw2
        refine nx _ _ ⟨_, _, rfl⟩ ?_ e2
        show Cw M H l (List.flatMap _ _) H2
        rw [flatMap_take hf]
        rw [List.take_length] at cw2
        exact cw2
    · rintro σ' H' e ⟨u, w, rfl⟩ cw
      rw [List.take_length] at cw
      exact s_rk k (cw.same hl) (ev_d rfl (cw.is hM hl))
theorem ok_makes_fit {f : Addr} {fd : FuncData} (F : Fun K "makes_fit" "Category.makes_fit" s_makes_fit f fd) (T : Txt K mg CC CI CL WN) (g_what_make : MetOk P w K mg base CC 2 "what_make" ["self", "f", "g"] (sp_what_make CC CI CL)) : FnOk P w K mg base CX0 3 f fd ["self", "f", "g"] (sp_makes_fit CC CI CL) := by
  refine F.ok sc_makes_fit (fun vs H Q E h => ?_) (fun cdv A outer s H vs Q E hr h => ⟨_, (pss_cons (ps_set (i := 3) sc_makes_fit.nd rfl (Or.inl rfl) (pe_methD (pv 0) T.cCC g_what_make (hr.mono (by decide)) (pa_cons (pv 1) (pa_cons (pv 2) pa_nil))))
    (pss_cons (ps_if (pt_cmpR op_isN (pv 3) pe_non (nomark _)) (pss_one (ps_ret pe_bl)) pss_nil)
    (pss_one (ps_ret (pe_and (pe_cmpR op_eq (pe_ix ix_list (pe_fld (pv 0) rfl) (pv 3) (fun _ _ => rfl)) (pe_ix ix_list (pe_fld (pv 0) rfl) (pv 1) (fun _ _ => rfl)) (nomark _)) (pe_one (pe_cmpR op_eq (pe_ix ix_list (pe_fld (pv 0) rfl) (pv 3) (fun _ _ => rfl)) (pe_ix ix_list (pe_fld (pv 0) rfl) (pv 2) (fun _ _ => rfl)) (nomark _)))))))), ?_⟩)
  · obtain ⟨_, _, _, ⟨_, _, _, _, rfl, _⟩, _⟩ := h
    rfl
  · obtain ⟨M, P, hM, ⟨c, m, f, g, rfl, hc, ok, hf, hg, rfl⟩, k⟩ := h
    refine s_asgS (ev_what_make hM (ev_o rfl) hc (ev_n rfl) (ev_n rfl)) fun v H1 e1 hv => ?_
    have hc1 := hc.mono (hid_mono (M := M) e1)
    have hM1 := hM.mono e1
    cases hm : mkOf m f g with
    | none =>
      obtain rfl : v = .non := by
        have hv' : Is (hid M H1) v (mkOf m f g) := hv
        rw [hm] at hv'
        exact Is.none hv'
      refine s_ifN (b := true) (et_is (v := .non) rfl) (fun _ H2 e2 => ?_) (fun hb => nomatch hb)
      exact s_rk k (e1.trans e2) ((ev_c (P := .is false) is_bool).eq (by unfold fits; rw [hm]))
    | some a =>
      obtain rfl : v = .int a := by
        have hv' : Is (hid M H1) v (mkOf m f g) := hv
        rw [hm] at hv'
        exact Is.some hv'
      have ha := mkOf_lt ok hf hg hm
      refine s_ifN (b := false) (et_is (v := .int a) rfl) (fun hb => nomatch hb) fun _ H2 e2 => ?_
      have hc2 := hc1.mono (hid_mono (M := M) e2)
      exact s_rk k (e1.trans e2) ((ev_andV (ev_eqN (ev_ixL (ev_begins T (ev_o rfl) hc2) (ev_n rfl) (arrows_at1 ha)) (ev_ixL (ev_begins T (ev_o rfl) hc2) (ev_n rfl) (arrows_at1 hf)))
        fun _ => ev_eqN (ev_ixL (ev_ends T (ev_o rfl) hc2) (ev_n rfl) (arrows_at2 ha)) (ev_ixL (ev_ends T (ev_o rfl) hc2) (ev_n rfl) (arrows_at2 hg))).eq (by unfold fits; rw [hm]))
theorem ok_is_same_taken {f : Addr} {fd : FuncData} (F : Fun K "is_same_taken" "Category.is_same_taken" s_is_same_taken f fd) (T : Txt K mg CC CI CL WN) (g_what_make : MetOk P w K mg base CC 2 "what_make" ["self", "f", "g"] (sp_what_make CC CI CL)) : FnOk P w K mg base CX0 3 f fd ["self", "f", "g", "h"] (sp_is_same_taken CC CI CL) := by
  refine F.ok sc_is_same_taken (fun vs H Q E h => ?_) (fun cdv A outer s H vs Q E hr h => ⟨_, (pss_one (ps_ret (pe_cmpR op_eq (pe_methD (pv 0) T.cCC g_what_make (hr.mono (by decide)) (pa_cons (pe_methD (pv 0) T.cCC g_what_make (hr.mono (by decide)) (pa_cons (pv 1) (pa_cons (pv 2) pa_nil))) (pa_cons (pv 3) pa_nil))) (pe_methD (pv 0) T.cCC g_what_make (hr.mono (by decide)) (pa_cons (pv 1) (pa_cons (pe_methD (pv 0) T.cCC g_what_make (hr.mono (by decide)) (pa_cons (pv 2) (pa_cons (pv 3) pa_nil))) pa_nil))) (nomark _)))), ?_⟩)
  · obtain ⟨_, _, _, ⟨_, _, _, _, _, _, _, _, _, rfl, _⟩, _⟩ := h
    rfl
  · obtain ⟨M, P, hM, ⟨c, m, f, g, h, a, b, u, w, rfl, hc, h1, h2, h3, h4, rfl⟩, k⟩ := h
    have e1 := ev_what_make (CI := CI) (CL := CL) hM (ev_o (i := 0) (σ := [some (.ref c), some (.int f), some (.int g), some (.int h)]) rfl) hc (ev_n (i := 1) (n := f) rfl) (ev_n (i := 2) (n := g) rfl)
    have e2 := ev_what_make (CI := CI) (CL := CL) hM (ev_o (i := 0) (σ := [some (.ref c), some (.int f), some (.int g), some (.int h)]) rfl) hc (ev_n (i := 2) (n := g) rfl) (ev_n (i := 3) (n := h) rfl)
    rw [h1] at e1
    rw [h2] at e2
    have e3 := ev_what_make (CI := CI) (CL := CL) hM (ev_o (i := 0) rfl) hc e1.ofSome (ev_n (i := 3) (n := h) rfl)
    have e4 := ev_what_make (CI := CI) (CL := CL) hM (ev_o (i := 0) rfl) hc (ev_n (i := 1) (n := f) rfl) e2.ofSome
    rw [h3] at e3
    rw [h4] at e4
    exact s_rk k (Same.refl _) (ev_eqN e3.ofSome e4.ofSome)
end
end Im

namespace Im
open PySem PySem.Spec PyProof.Rows L2
structure InstOk (m : Fc05.Cat) (t : Fc05.Inst) : Prop where
  sz : t.size.length = m.n
  tb : t.tab.length = m.arrows.length
  row : ∀ f, m.n ≤ f → f < m.arrows.length → (t.tab.getD f []).length = Fc05.rows t (Fc05.from_ m f)
  tot : Fc05.total t ≤ 6
section
variable {m : Fc05.Cat} {t : Fc05.Inst}
theorem foldl_sum (l : List Nat) (a : Nat) : l.foldl (fun a b => a + b) a = a + l.foldl (fun a b => a + b) 0 := by
  induction l generalizing a with
  | nil => rfl
  | cons b l ih =>
    rw [List.foldl_cons, List.foldl_cons, ih, ih (0 + b)]
    omega
theorem getD_le_sum (l : List Nat) (x : Nat) : l.getD x 0 ≤ l.foldl (fun a b => a + b) 0 := by
  induction l generalizing x with
  | nil => simp
  | cons b l ih =>
    rw [List.foldl_cons, foldl_sum]
    cases x with
    | zero => rw [List.getD_cons_zero]; omega
    | succ x =>
      rw [List.getD_cons_succ]
      have := ih x
      omega
theorem rows_le (ok : InstOk m t) (x : Nat) : Fc05.rows t x ≤ 6 := Nat.le_trans (getD_le_sum t.size x) ok.tot
theorem rows_at {x k : Nat} (h : t.size[x]? = some k) : Fc05.rows t x = k := by
  unfold Fc05.rows
  rw [List.getD_eq_getElem?_getD, h]
  rfl
theorem size_at (ok : InstOk m t) {x : Nat} (h : x < m.n) : t.size[x]? = some (Fc05.rows t x) := by
  have h' : x < t.size.length := by rw [ok.sz]; exact h
  unfold Fc05.rows
  rw [List.getD_eq_getElem?_getD, List.getElem?_eq_getElem h']
  rfl
theorem own_from (ok : CatOk m) {f : Nat} (h : f < m.n) : Fc05.from_ m f = f ∧ Fc05.to_ m f = f := by
  unfold Fc05.from_ Fc05.to_
  rw [List.getD_eq_getElem?_getD, ok.own f h]
  exact ⟨rfl, rfl⟩
theorem from_lt (ok : CatOk m) {f : Nat} (h : f < m.arrows.length) : Fc05.from_ m f < m.n ∧ Fc05.to_ m f < m.n := by
  have := ok.lt (m.arrows[f]) (List.getElem_mem h)
  unfold Fc05.from_ Fc05.to_
  rw [List.getD_eq_getElem?_getD, List.getElem?_eq_getElem h]
  exact this
theorem lead_len (ok : CatOk m) (io : InstOk m t) {f : Nat} (h : f < m.arrows.length) : (lead m t f).length = Fc05.rows t (Fc05.from_ m f) := by
  unfold lead
  by_cases q : f < m.n
  · rw [if_pos q, List.length_range, (own_from ok q).1]
  · rw [if_neg q]
    exact io.row f (by omega) h
theorem lead_at {f r : Nat} (h : r < (lead m t f).length) : (lead m t f)[r]? = some (Fc05.go m t f r) := by
  unfold lead at h ⊢
  unfold Fc05.go
  by_cases q : f < m.n
  · rw [if_pos q] at h ⊢
    rw [List.length_range] at h
    rw [if_pos q, List.getElem?_range h]
  · rw [if_neg q] at h ⊢
    rw [if_neg q, List.getD_eq_getElem?_getD (l := t.tab.getD f []), List.getElem?_eq_getElem h]
    rfl
theorem leads_at {f : Nat} (h : f < m.arrows.length) : (leadsOf m t)[f]? = some (lead m t f) := by
  unfold leadsOf
  rw [List.getElem?_map, List.getElem?_range h]
  rfl
def hasRow (m : Fc05.Cat) (t : Fc05.Inst) (x r : Nat) : Bool := decide (x < m.n) && decide (r < Fc05.rows t x)
def ledTo (m : Fc05.Cat) (t : Fc05.Inst) (p : Nat × Nat) : List (Nat × Nat) := (arrowsFrom m p.1).map fun f => (Fc05.to_ m f, Fc05.go m t f p.2)
theorem from_mem {x f : Nat} : f ∈ arrowsFrom m x ↔ f < m.arrows.length ∧ Fc05.from_ m f = x := by
  unfold arrowsFrom Fc05.all
  rw [List.mem_filter, List.mem_range, beq_iff_eq]
theorem from_len (ok : CatOk m) (x : Nat) : (arrowsFrom m x).length ≤ 8 := by
  unfold arrowsFrom Fc05.all
  have h := List.length_filter_le (fun f => Fc05.from_ m f == x) (List.range m.arrows.length)
  rw [List.length_range] at h
  have := ok.eight
  omega
theorem places_mem {x r : Nat} : (x, r) ∈ Fc05.places m t ↔ x < m.n ∧ r < Fc05.rows t x := by
  unfold Fc05.places Fc05.things
  simp only [List.mem_flatMap, List.mem_map, List.mem_range, Prod.mk.injEq]
  constructor
  · rintro ⟨a, h1, b, h2, rfl, rfl⟩
    exact ⟨h1, h2⟩
  · rintro ⟨h1, h2⟩
    exact ⟨x, h1, r, h2, rfl, rfl⟩
def gapR (m : Fc05.Cat) (t : Fc05.Inst) (f r : Nat) : Option (List Nat) := if Fc05.go m t f r = 99 then some [1, f, r] else if Fc05.rows t (Fc05.to_ m f) ≤ Fc05.go m t f r then some [2, f, r] else none
def gapF (m : Fc05.Cat) (t : Fc05.Inst) (f : Nat) : Option (List Nat) := (List.range (Fc05.rows t (Fc05.from_ m f))).findSome? (gapR m t f)
def gapO (m : Fc05.Cat) (t : Fc05.Inst) : Option (List Nat) := (told m).findSome? (gapF m t)
def detR (m : Fc05.Cat) (t : Fc05.Inst) (f g h r : Nat) : Option (List Nat) := if Fc05.go m t g (Fc05.go m t f r) = Fc05.go m t h r then none else some [3, f, g, r]
def detF (m : Fc05.Cat) (t : Fc05.Inst) (p : Nat × Nat) : Option (List Nat) := match mkOf m p.1 p.2 with
  | none => none
  | some h => (List.range (Fc05.rows t (Fc05.from_ m p.1))).findSome? (detR m t p.1 p.2 h)
def detO (m : Fc05.Cat) (t : Fc05.Inst) : Option (List Nat) := (pairs m).findSome? (detF m t)
def faultL (m : Fc05.Cat) (t : Fc05.Inst) : List Nat := match gapO m t with
  | some l => l
  | none => (detO m t).getD []
theorem find_take {α β : Type} {l : List α} {i : Nat} {x : α} {f : α → Option β} (h : l[i]? = some x) (hn : (l.take i).findSome? f = none) : (l.take (i + 1)).findSome? f = f x := by
  rw [tk_more h, List.findSome?_append, hn]
  show ([x].findSome? f) = f x
  cases e : f x <;> simp [e]
theorem find_hit {α β : Type} {l : List α} {i : Nat} {x : α} {y : β} {f : α → Option β} (h : l[i]? = some x) (hn : (l.take i).findSome? f = none) (e : f x = some y) : l.findSome? f = some y := by
  have h1 := find_take h hn
  rw [e] at h1
  have h2 : l = l.take (i + 1) ++ l.drop (i + 1) := (List.take_append_drop _ _).symm
  rw [h2, List.findSome?_append, h1]
  rfl
theorem gapR_ne {f r : Nat} {l : List Nat} (h : gapR m t f r = some l) : l ≠ [] := by
  unfold gapR at h
  split at h
  · obtain rfl := Option.some.inj h
    exact fun z => nomatch z
  · split at h
    · obtain rfl := Option.some.inj h
      exact fun z => nomatch z
    · cases h
theorem gapO_ne {l : List Nat} (h : gapO m t = some l) : l ≠ [] := by
  obtain ⟨f, _, h2⟩ := List.exists_of_findSome?_eq_some h
  obtain ⟨r, _, h4⟩ := List.exists_of_findSome?_eq_some h2
  exact gapR_ne h4
theorem gap_none (h : gapO m t = none) {f r : Nat} (hf : f ∈ told m) (hr : r < Fc05.rows t (Fc05.from_ m f)) : Fc05.go m t f r < Fc05.rows t (Fc05.to_ m f) := by
  have h1 := List.findSome?_eq_none_iff.mp h f hf
  have h2 := List.findSome?_eq_none_iff.mp h1 r (List.mem_range.mpr hr)
  unfold gapR at h2
  split at h2
  · cases h2
  · split at h2
    · cases h2
    · omega
end
def sp_has_row (CC CI CL : Addr) : Sp := SpP fun vs G P => ∃ (i c : Addr) (m : Fc05.Cat) (t : Fc05.Inst) (x r : Nat), vs = [.ref i, .int x, .int r] ∧ InstAt CC CI G i c m t ∧ InstOk m t ∧ P = .is (hasRow m t x r)
def sp_all_rows (CC CI CL : Addr) : Sp := SpP fun vs G P => ∃ (i c : Addr) (m : Fc05.Cat) (t : Fc05.Inst), vs = [.ref i] ∧ InstAt CC CI G i c m t ∧ CatOk m ∧ InstOk m t ∧ P = .is (Fc05.places m t)
def sp_led_along (CC CI CL : Addr) : Sp := SpP fun vs G P => ∃ (i c : Addr) (m : Fc05.Cat) (t : Fc05.Inst) (f x r : Nat) (v : V), vs = [.ref i, .int f, v] ∧ InstAt CC CI G i c m t ∧ f < m.arrows.length ∧ Is G v (x, r) ∧ r < (lead m t f).length ∧ P = .is (Fc05.to_ m f, Fc05.go m t f r)
def sp_led_to (CC CI CL : Addr) : Sp := SpP fun vs G P => ∃ (i c : Addr) (m : Fc05.Cat) (t : Fc05.Inst) (x r : Nat) (v : V), vs = [.ref i, v] ∧ InstAt CC CI G i c m t ∧ CatOk m ∧ InstOk m t ∧ Is G v (x, r) ∧ r < Fc05.rows t x ∧ P = .is (ledTo m t (x, r))
def sp_first_gap (CC CI CL : Addr) : Sp := SpP fun vs G P => ∃ (i c : Addr) (m : Fc05.Cat) (t : Fc05.Inst), vs = [.ref i] ∧ InstAt CC CI G i c m t ∧ CatOk m ∧ InstOk m t ∧ P = .is ((gapO m t).getD [])
def sp_first_detour (CC CI CL : Addr) : Sp := SpP fun vs G P => ∃ (i c : Addr) (m : Fc05.Cat) (t : Fc05.Inst), vs = [.ref i] ∧ InstAt CC CI G i c m t ∧ CatOk m ∧ InstOk m t ∧ catB m = true ∧ gapO m t = none ∧ P = .is ((detO m t).getD [])
def sp_first_fault (CC CI CL : Addr) : Sp := SpP fun vs G P => ∃ (i c : Addr) (m : Fc05.Cat) (t : Fc05.Inst), vs = [.ref i] ∧ InstAt CC CI G i c m t ∧ CatOk m ∧ InstOk m t ∧ catB m = true ∧ P = .is (faultL m t)
def sp_is_right (CC CI CL : Addr) : Sp := SpP fun vs G P => ∃ (i c : Addr) (m : Fc05.Cat) (t : Fc05.Inst), vs = [.ref i] ∧ InstAt CC CI G i c m t ∧ CatOk m ∧ InstOk m t ∧ P = .is (catB m && decide (faultL m t = []))
section
variable {K : PySem.W.Frag} {mg : Str → Option Value} {CC CI CL WN c i : Addr} {m : Fc05.Cat} {t : Fc05.Inst} {M : Addr → Prop} {σ : L2.St} {H : Hp} {ta tx ty tz : TE} {f g h x r : Nat}
theorem ev_has_row (hM : Tr M H) (ho : Ev M ta σ H (.val (.ref i))) (hc : InstAt CC CI (hid M H) i c m t) (io : InstOk m t) (h1 : Ev M tx σ H (.is x)) (h2 : Ev M ty σ H (.is r)) : Ev M (tMeth CI "has_row" (sp_has_row CC CI CL) [] E0 ta (tCons tx (tCons ty tNil))) σ H (.is (hasRow m t x r)) :=
  ev_methI hM ho hc (by decide) (by decide) (by decide) (ea_cons h1 (ea_cons h2 ea_nil)) fun vs H1 e hv => by
    obtain ⟨u, w, rfl, q, q'⟩ := hv.two
    obtain rfl := Is.nat q
    obtain rfl := Is.nat q'
    exact ⟨i, c, m, t, x, r, rfl, hc.mono (hid_mono e), io, rfl⟩
theorem ev_all_rows (hM : Tr M H) (ho : Ev M ta σ H (.val (.ref i))) (hc : InstAt CC CI (hid M H) i c m t) (ok : CatOk m) (io : InstOk m t) : Ev M (tMeth CI "all_rows" (sp_all_rows CC CI CL) [] E0 ta tNil) σ H (.is (Fc05.places m t)) :=
  ev_methI hM ho hc (by decide) (by decide) (by decide) ea_nil fun vs H1 e hv => by
    obtain rfl := hv.nil
    exact ⟨i, c, m, t, rfl, hc.mono (hid_mono e), ok, io, rfl⟩
theorem ev_led_along (hM : Tr M H) (ho : Ev M ta σ H (.val (.ref i))) (hc : InstAt CC CI (hid M H) i c m t) (hf : f < m.arrows.length) (hr : r < (lead m t f).length) (h1 : Ev M tx σ H (.is f)) (h2 : Ev M ty σ H (.is (x, r))) : Ev M (tMeth CI "led_along" (sp_led_along CC CI CL) [] E0 ta (tCons tx (tCons ty tNil))) σ H (.is (Fc05.to_ m f, Fc05.go m t f r)) :=
  ev_methI hM ho hc (by decide) (by decide) (by decide) (ea_cons h1 (ea_cons h2 ea_nil)) fun vs H1 e hv => by
    obtain ⟨u, w, rfl, q, q'⟩ := hv.two
    obtain rfl := Is.nat q
    exact ⟨i, c, m, t, f, x, r, w, rfl, hc.mono (hid_mono e), hf, q', hr, rfl⟩
theorem ev_led_to (hM : Tr M H) (ho : Ev M ta σ H (.val (.ref i))) (hc : InstAt CC CI (hid M H) i c m t) (ok : CatOk m) (io : InstOk m t) (hr : r < Fc05.rows t x) (h2 : Ev M ty σ H (.is (x, r))) : Ev M (tMeth CI "led_to" (sp_led_to CC CI CL) [] E0 ta (tCons ty tNil)) σ H (.is (ledTo m t (x, r))) :=
  ev_methI hM ho hc (by decide) (by decide) (by decide) (ea_cons h2 ea_nil) fun vs H1 e hv => by
    obtain ⟨u, rfl, q⟩ := hv.one
    exact ⟨i, c, m, t, x, r, u, rfl, hc.mono (hid_mono e), ok, io, q, hr, rfl⟩
theorem ev_first_gap (hM : Tr M H) (ho : Ev M ta σ H (.val (.ref i))) (hc : InstAt CC CI (hid M H) i c m t) (ok : CatOk m) (io : InstOk m t) : Ev M (tMeth CI "first_gap" (sp_first_gap CC CI CL) [] E0 ta tNil) σ H (.is ((gapO m t).getD [])) :=
  ev_methI hM ho hc (by decide) (by decide) (by decide) ea_nil fun vs H1 e hv => by
    obtain rfl := hv.nil
    exact ⟨i, c, m, t, rfl, hc.mono (hid_mono e), ok, io, rfl⟩
theorem ev_first_detour (hM : Tr M H) (ho : Ev M ta σ H (.val (.ref i))) (hc : InstAt CC CI (hid M H) i c m t) (ok : CatOk m) (io : InstOk m t) (hb : catB m = true) (hg : gapO m t = none) : Ev M (tMeth CI "first_detour" (sp_first_detour CC CI CL) [] E0 ta tNil) σ H (.is ((detO m t).getD [])) :=
  ev_methI hM ho hc (by decide) (by decide) (by decide) ea_nil fun vs H1 e hv => by
    obtain rfl := hv.nil
    exact ⟨i, c, m, t, rfl, hc.mono (hid_mono e), ok, io, hb, hg, rfl⟩
theorem ev_first_fault (hM : Tr M H) (ho : Ev M ta σ H (.val (.ref i))) (hc : InstAt CC CI (hid M H) i c m t) (ok : CatOk m) (io : InstOk m t) (hb : catB m = true) : Ev M (tMeth CI "first_fault" (sp_first_fault CC CI CL) [] E0 ta tNil) σ H (.is (faultL m t)) :=
  ev_methI hM ho hc (by decide) (by decide) (by decide) ea_nil fun vs H1 e hv => by
    obtain rfl := hv.nil
    exact ⟨i, c, m, t, rfl, hc.mono (hid_mono e), ok, io, hb, rfl⟩
theorem ev_is_right (hM : Tr M H) (ho : Ev M ta σ H (.val (.ref i))) (hc : InstAt CC CI (hid M H) i c m t) (ok : CatOk m) (io : InstOk m t) : Ev M (tMeth CI "is_right" (sp_is_right CC CI CL) [] E0 ta tNil) σ H (.is (catB m && decide (faultL m t = []))) :=
  ev_methI hM ho hc (by decide) (by decide) (by decide) ea_nil fun vs H1 e hv => by
    obtain rfl := hv.nil
    exact ⟨i, c, m, t, rfl, hc.mono (hid_mono e), ok, io, rfl⟩
end
section
variable {P : Program} {w : World} {K : PySem.W.Frag} {mg : Str → Option Value} {base : Heap} {CC CI CL WN : Addr}
theorem catB_fit {m : Fc05.Cat} {f g : Nat} (h : ((pairs m).all fun p => fits m p.1 p.2) = true) (hp : (f, g) ∈ pairs m) : ∃ a, mkOf m f g = some a ∧ Fc05.from_ m a = Fc05.from_ m f ∧ Fc05.to_ m a = Fc05.to_ m g := by
  have h1 := List.all_eq_true.mp h _ hp
  unfold fits at h1
  cases e : mkOf m f g with
  | none =>
    simp only [e] at h1
    cases h1
  | some a =>
    simp only [e, Bool.and_eq_true, decide_eq_true_eq] at h1
    exact ⟨a, rfl, h1.1, h1.2⟩
theorem mk_told {m : Fc05.Cat} (h : ((pairs m).all fun p => fits m p.1 p.2) = true) {f g : Nat} (hf : f < m.arrows.length) (hg : g < m.arrows.length) (e : Fc05.to_ m f = Fc05.from_ m g) : ∃ u, mkOf m f g = some u := by
  by_cases h1 : f < m.n
  · exact ⟨g, by rw [mkOf, if_pos h1]⟩
  · by_cases h2 : g < m.n
    · exact ⟨f, by rw [mkOf, if_neg h1, if_pos h2]⟩
    · obtain ⟨a, h3, _⟩ := catB_fit h (pairs_mem.mpr ⟨told_mem.mpr ⟨by omega, hf⟩, told_mem.mpr ⟨by omega, hg⟩, e⟩)
      exact ⟨a, h3⟩
theorem ok_is_category {f : Addr} {fd : FuncData} (F : Fun K "is_category" "Category.is_category" s_is_category f fd) (T : Txt K mg CC CI CL WN) (g_told_arrows : MetOk P w K mg base CC 1 "told_arrows" ["self"] (sp_told_arrows CC CI CL)) (g_is_same_taken : MetOk P w K mg base CC 3 "is_same_taken" ["self", "f", "g", "h"] (sp_is_same_taken CC CI CL)) (g_do_meet : MetOk P w K mg base CC 1 "do_meet" ["self", "f", "g"] (sp_do_meet CC CI CL)) (g_makes_fit : MetOk P w K mg base CC 3 "makes_fit" ["self", "f", "g"] (sp_makes_fit CC CI CL)) (g_meeting_pairs : MetOk P w K mg base CC 2 "meeting_pairs" ["self"] (sp_meeting_pairs CC CI CL)) : FnOk P w K mg base CX0 4 f fd ["self"] (sp_is_category CC CI CL) := by
  refine F.ok sc_is_category (fun vs H Q E h => ?_) (fun cdv A outer s H vs Q E hr h => ⟨_, (pss_cons (ps_set (i := 1) sc_is_category.nd rfl (Or.inl rfl) (pe_methD0 (pv 0) T.cCC g_meeting_pairs (hr.mono (by decide))))
    (pss_cons (ps_for PassesOwn.never rfl (pi_list (pv 1)) (pg_tup rfl (pgs_cons (pg_name (i := 2) sc_is_category.nd rfl (Or.inl rfl)) (pgs_cons (pg_name (i := 3) sc_is_category.nd rfl (Or.inl rfl)) pgs_nil))) (pss_one (ps_if (pt_not (pt_val (pe_methD (pv 0) T.cCC g_makes_fit (hr.mono (by decide)) (pa_cons (pv 2) (pa_cons (pv 3) pa_nil))))) (pss_one (ps_ret pe_bl)) pss_nil)))
    (pss_cons (ps_for PassesOwn.never rfl (pi_list (pv 1)) (pg_tup rfl (pgs_cons (pg_name (i := 2) sc_is_category.nd rfl (Or.inl rfl)) (pgs_cons (pg_name (i := 3) sc_is_category.nd rfl (Or.inl rfl)) pgs_nil))) (pss_one (ps_for PassesOwn.never rfl (pi_list (pe_methD0 (pv 0) T.cCC g_told_arrows (hr.mono (by decide)))) (pg_name (i := 4) sc_is_category.nd rfl (Or.inl rfl)) (pss_one (ps_if (PW.pt (pw_and (pt_val (pe_methD (pv 0) T.cCC g_do_meet (hr.mono (by decide)) (pa_cons (pv 3) (pa_cons (pv 4) pa_nil)))) (pw_and1 (pt_not (pt_val (pe_methD (pv 0) T.cCC g_is_same_taken (hr.mono (by decide)) (pa_cons (pv 2) (pa_cons (pv 3) (pa_cons (pv 4) pa_nil))))))))) (pss_one (ps_ret pe_bl)) pss_nil)))))
    (pss_one (ps_ret pe_bl))))), ?_⟩)
  · obtain ⟨_, _, _, ⟨_, _, rfl, _⟩, _⟩ := h
    rfl
  · obtain ⟨M, P, hM, ⟨c, m, rfl, hc, ok, rfl⟩, k⟩ := h
    refine s_asgS (ev_meeting_pairs hM (ev_o rfl) hc ok) fun v H1 e1 hv => ?_
    have hc1 := hc.mono (hid_mono (M := M) e1)
    have hM1 := hM.mono e1
    refine s_forPS (M := M) (src := pairs m) (ev_d rfl hv) (fun i σ' => (∃ u w z, σ' = [some (.ref c), some v, u, w, z]) ∧ ((pairs m).take i).all (fun p => fits m p.1 p.2) = true) ⟨⟨_, _, _, rfl⟩, rfl⟩ ?_ ?_
    · rintro i ⟨f, g⟩ v' σ' H2 N e2 hx ⟨⟨u, w, z, rfl⟩, hall⟩ hv' nx
      have hm := pairs_mem.mp (List.mem_of_getElem? hx)
      have hf := told_mem.mp hm.1
      have hg := told_mem.mp hm.2.1
      refine g_pair hid_sub hv' ?_
      refine s_if (et_not (et_B (ev_makes_fit (hM1.mono e2) (ev_o rfl) (hc1.mono (hid_mono e2)) ok hf.2 hg.2 (ev_n rfl) (ev_n rfl)))) (fun hb H3 e3 => ?_) fun hb H3 e3 => ?_
      · refine s_rk k ((e1.trans e2).trans e3) ((ev_c (P := .is false) is_bool).eq ?_)
        have hb' : fits m f g = false := by simpa using hb
        have : ((pairs m).all fun p => fits m p.1 p.2) = false := by
          rw [List.all_eq_false]
          exact ⟨(f, g), List.mem_of_getElem? hx, by rw [hb']; exact Bool.false_ne_true⟩
        unfold catB
        rw [this]
        rfl
      · refine nx _ _ ⟨⟨_, _, _, rfl⟩, ?_⟩ e3
        rw [tk_more hx, List.all_append, hall]
        have hb' : fits m f g = true := by simpa using hb
        simp [hb']
    · rintro σ' H2 e2 ⟨⟨u, w, z, rfl⟩, hall⟩
      rw [List.take_length] at hall
      refine s_forPS (M := M) (src := pairs m) (ev_d rfl (Is.mono (hid_mono e2) hv)) (fun i σ' => (∃ u w z, σ' = [some (.ref c), some v, u, w, z]) ∧ ((pairs m).take i).all (fun p => (told m).all fun h => !decide (Fc05.to_ m p.2 = Fc05.from_ m h) || sameB m p.1 p.2 h) = true) ⟨⟨_, _, _, rfl⟩, rfl⟩ ?_ ?_
      · rintro i ⟨f, g⟩ v' σ' H3 N e3 hx ⟨⟨u, w, z, rfl⟩, hall2⟩ hv' nx
        have hm := pairs_mem.mp (List.mem_of_getElem? hx)
        have hf := told_mem.mp hm.1
        have hg := told_mem.mp hm.2.1
        refine g_pair hid_sub hv' ?_
        have hM3 := (hM1.mono e2).mono e3
        have hc3 := (hc1.mono (hid_mono (M := M) e2)).mono (hid_mono (M := M) e3)
        refine s_forP (M := M) (src := told m) (ev_told_arrows hM3 (ev_o rfl) hc3 ok.eight ok.nle) (fun i σ' => (∃ z, σ' = [some (.ref c), some v, some (.int f), some (.int g), z]) ∧ ((told m).take i).all (fun h => !decide (Fc05.to_ m g = Fc05.from_ m h) || sameB m f g h) = true) ⟨⟨_, rfl⟩, rfl⟩ ?_ ?_
        · rintro j h v'' σ' H4 N' e4 hh ⟨⟨z, rfl⟩, hall3⟩ hv'' nx'
          obtain rfl := Is.nat hv''
          have hh' := told_mem.mp (List.mem_of_getElem? hh)
          have hM4 := hM3.mono e4
          have hc4 := hc3.mono (hid_mono (M := M) e4)
          have test : EvT (tAnd (tB (tMeth CC "do_meet" (sp_do_meet CC CI CL) [] E0 (tVar 0) (tCons (tVar 3) (tCons (tVar 4) tNil)))) (tNot (tB (tMeth CC "is_same_taken" (sp_is_same_taken CC CI CL) [] E0 (tVar 0) (tCons (tVar 2) (tCons (tVar 3) (tCons (tVar 4) tNil)))))))
              [some (.ref c), some v, some (.int f), some (.int g), some (.int h)] H4 (decide (Fc05.to_ m g = Fc05.from_ m h) && !sameB m f g h) := by
            refine et_and (et_B (ev_do_meet hM4 (ev_o rfl) hc4 hg.2 hh'.2 (ev_n rfl) (ev_n rfl))) fun hb => et_not ?_
            have hgh := of_decide_eq_true hb
            obtain ⟨a, ha, ha1, ha2⟩ := catB_fit hall (pairs_mem.mpr hm)
            obtain ⟨b, hb1, hb2, hb3⟩ := catB_fit hall (pairs_mem.mpr ⟨hm.2.1, List.mem_of_getElem? hh, hgh⟩)
            obtain ⟨u', hu⟩ := mk_told hall (mkOf_lt ok hf.2 hg.2 ha) hh'.2 (ha2.trans hgh)
            obtain ⟨w', hw⟩ := mk_told hall hf.2 (mkOf_lt ok hg.2 hh'.2 hb1) (hm.2.2.trans hb2.symm)
            refine (et_B (ev_is_same_taken hM4 (ev_o rfl) hc4 ha hb1 hu hw (ev_n rfl) (ev_n rfl) (ev_n rfl))).eq ?_
            unfold sameB
            rw [ha, hb1]
            show decide (u' = w') = decide (mkOf m a h = mkOf m f b)
            rw [hu, hw]
            simp
          refine s_if test (fun hb H5 e5 => ?_) fun hb H5 e5 => ?_
          · refine s_rk k ((((e1.trans e2).trans e3).trans e4).trans e5) ((ev_c (P := .is false) is_bool).eq ?_)
            have : ((pairs m).all fun p => (told m).all fun h => !decide (Fc05.to_ m p.2 = Fc05.from_ m h) || sameB m p.1 p.2 h) = false := by
              rw [List.all_eq_false]
              refine ⟨(f, g), List.mem_of_getElem? hx, ?_⟩
              rw [Bool.not_eq_true, List.all_eq_false]
              refine ⟨h, List.mem_of_getElem? hh, ?_⟩
              rw [Bool.and_eq_true] at hb
              show ¬ (!decide (Fc05.to_ m g = Fc05.from_ m h) || sameB m f g h) = true
              rw [hb.1]
              simpa using hb.2
            unfold catB
            rw [this, Bool.and_false]
          · refine nx' _ _ ⟨⟨_, rfl⟩, ?_⟩ e5
            rw [tk_more hh, List.all_append, hall3]
            show (true && ([h].all fun h => !decide (Fc05.to_ m g = Fc05.from_ m h) || sameB m f g h)) = true
            cases q : decide (Fc05.to_ m g = Fc05.from_ m h) <;> simp [q] at hb ⊢
            exact hb
        · rintro σ' H4 e4 ⟨⟨z, rfl⟩, hall3⟩
          rw [List.take_length] at hall3
          refine nx _ _ ⟨⟨_, _, _, rfl⟩, ?_⟩ e4
          rw [tk_more hx, List.all_append, hall2]
          show (true && ([(f, g)].all fun p => (told m).all fun h => !decide (Fc05.to_ m p.2 = Fc05.from_ m h) || sameB m p.1 p.2 h)) = true
          rw [List.all_cons, hall3]
          rfl
      · rintro σ' H3 e3 ⟨⟨u, w, z, rfl⟩, hall2⟩
        rw [List.take_length] at hall2
        refine s_rk k ((e1.trans e2).trans e3) ((ev_c (P := .is true) is_bool).eq ?_)
        unfold catB
        rw [hall, hall2]
        rfl
theorem ok_has_row {f : Addr} {fd : FuncData} (F : Fun K "has_row" "Instance.has_row" s_has_row f fd) (T : Txt K mg CC CI CL WN) : FnOk P w K mg base CX0 1 f fd ["self", "x", "r"] (sp_has_row CC CI CL) := by
  refine F.ok sc_has_row (fun vs H Q E h => ?_) (fun cdv A outer s H vs Q E hr h => ⟨_, (pss_one (ps_ret (pe_and (pe_cmpR op_lt (pv 1) (pe_callB call_len_seq (by rfl) T.f_len PySem.boot_len (pa_cons (pe_fld (pv 0) rfl) pa_nil)) (nomark _)) (pe_one (pe_cmpR op_lt (pv 2) (pe_ix ix_list (pe_fld (pv 0) rfl) (pv 1) (fun _ _ => rfl)) (nomark _)))))), ?_⟩)
  · obtain ⟨_, _, _, ⟨_, _, _, _, _, _, rfl, _⟩, _⟩ := h
    rfl
  · obtain ⟨M, P, hM, ⟨i, c, m, t, x, r, rfl, hc, io, rfl⟩, k⟩ := h
    refine s_rk k (Same.refl _) ((ev_andV (ev_lt (ev_n rfl) (ev_len (ev_sizes T (ev_o rfl) hc))) fun hb => ev_lt (ev_n rfl) (ev_ixL (ev_sizes T (ev_o rfl) hc) (ev_n rfl) (size_at io ?_))).eq ?_)
    · rw [← io.sz]
      exact of_decide_eq_true hb
    · unfold hasRow
      rw [io.sz]
theorem ok_all_rows {f : Addr} {fd : FuncData} (F : Fun K "all_rows" "Instance.all_rows" s_all_rows f fd) (T : Txt K mg CC CI CL WN) : FnOk P w K mg base CX0 1 f fd ["self"] (sp_all_rows CC CI CL) := by
  refine F.ok sc_all_rows (fun vs H Q E h => ?_) (fun cdv A outer s H vs Q E hr h => ⟨_, (pss_cons (ps_set (i := 1) sc_all_rows.nd rfl (Or.inl rfl) (pe_lst pa_nil))
    (pss_cons (ps_for PassesOwn.never rfl (pi_enum (by rfl) T.f_enumerate (pa_cons (pe_fld (pv 0) rfl) pa_nil)) (pg_tup rfl (pgs_cons (pg_name (i := 2) sc_all_rows.nd rfl (Or.inl rfl)) (pgs_cons (pg_name (i := 3) sc_all_rows.nd rfl (Or.inl rfl)) pgs_nil))) (pss_one (ps_for PassesOwn.never rfl (pi_range1 (by rfl) T.f_range (pa_cons (pv 3) pa_nil)) (pg_name (i := 4) sc_all_rows.nd rfl (Or.inl rfl)) (pss_one (ps_expr (pe_bm PySem.F.plainAttrs_list PySem.F.slot_list_append PySem.F.type_list_append mt_append (pv 1) (pa_cons (pe_tup (pa_cons (pv 2) (pa_cons (pv 4) pa_nil))) pa_nil)))))))
    (pss_one (ps_ret (pv 1))))), ?_⟩)
  · obtain ⟨_, _, _, ⟨_, _, _, _, rfl, _⟩, _⟩ := h
    rfl
  · obtain ⟨M, P, hM, ⟨i, c, m, t, rfl, hc, ok, io, rfl⟩, k⟩ := h
    refine s_newS fun l hl => ?_
    have c0 : Cw M H l ([] : List (Nat × Nat)) (upd H l (.lst [])) := Cw.start
    have le0 := c0.le hM hl
    refine s_forECS (acc := fun j => ((List.range m.n).take j).flatMap fun x => (List.range (Fc05.rows t x)).map fun r => (x, r)) c0 (ea_cons (ev_sizes T (ev_o rfl) (hc.mono le0.same)) ea_nil) rfl (fun _ σ' => ∃ u w z, σ' = [some (.ref i), some (.ref l), u, w, z]) ⟨_, _, _, rfl⟩ ?_ ?_
    · rintro x sz v σ' H1 N e1 hx ⟨u, w, z, rfl⟩ cw hv nx
      obtain rfl := Is.nat hv
      have hxn : x < m.n := by rw [← io.sz]; exact (List.getElem?_eq_some_iff.mp hx).1
      have hsz := rows_at hx
      have hr : (List.range m.n)[x]? = some x := List.getElem?_range hxn
      have a1 : (((List.range m.n).take x).flatMap fun x => (List.range (Fc05.rows t x)).map fun r => (x, r)).length ≤ 18 := by
        have := flatMap_len ((List.range m.n).take x) (fun x => (List.range (Fc05.rows t x)).map fun r => (x, r)) 6 fun y _ => by
          rw [List.length_map, List.length_range]
          exact rows_le io y
        have h2 : ((List.range m.n).take x).length ≤ 3 := by
          rw [List.length_take, List.length_range]
          have := ok.three
          omega
        omega
      refine s_forRC (n := sz) (acc := fun j => (((List.range m.n).take x).flatMap fun x => (List.range (Fc05.rows t x)).map fun r => (x, r)) ++ (((List.range sz).take j).map fun r => (x, r))) cw (ea_cons (ev_n rfl) ea_nil) (by have := rows_le io x; omega) (List.append_nil _) (fun _ σ' => ∃ z, σ' = [some (.ref i), some (.ref l), some (.int x), some (.int sz), z]) ⟨_, rfl⟩ ?_ ?_
      · rintro r σ' H2 N' e2 hr' ⟨z, rfl⟩ cw2 nx'
        refine s_appC cw2 ?_ rfl (ev_tup (tr := tNil) (cw2.le hM hl).tr (ev_n rfl) (ev_n rfl)) fun H4 cw4 e4 => nx' _ _ ⟨_, rfl⟩ ?_ e4
        · rw [List.length_append, List.length_map, List.length_take, List.length_range]
          have := rows_le io x
          omega
        · show Cw M H l (_ ++ _) H4
          rw [tk_more (List.getElem?_range hr'), List.map_append, ← List.append_assoc]
          exact cw4
      · rintro σ' H2 e2 ⟨z, rfl⟩ cw2
        refine nx _ _ ⟨_, _, _, rfl⟩ ?_ e2
        show Cw M H l (List.flatMap _ _) H2
        rw [flatMap_take hr, hsz]
        have e3 : (List.range sz).take sz = List.range sz := List.take_of_length_le (by rw [List.length_range]; omega)
        simp only [e3] at cw2
        exact cw2
    · rintro σ' H1 e1 ⟨u, w, z, rfl⟩ cw
      have e3 : (List.range m.n).take t.size.length = List.range m.n := List.take_of_length_le (by rw [List.length_range, io.sz]; omega)
      simp only [e3] at cw
      exact s_rk k (cw.same hl) (ev_d rfl (cw.is hM hl))
theorem ok_led_along {f : Addr} {fd : FuncData} (F : Fun K "led_along" "Instance.led_along" s_led_along f fd) (T : Txt K mg CC CI CL WN) : FnOk P w K mg base CX0 1 f fd ["self", "f", "row"] (sp_led_along CC CI CL) := by
  refine F.ok sc_led_along (fun vs H Q E h => ?_) (fun cdv A outer s H vs Q E hr h => ⟨_, (pss_one (ps_ret (pe_tup (pa_cons (pe_ix ix_list (pe_fld (pe_fld (pv 0) rfl) rfl) (pv 1) (fun _ _ => rfl)) (pa_cons (pe_ix ix_list (pe_ix ix_list (pe_fld (pv 0) rfl) (pv 1) (fun _ _ => rfl)) (pe_ix ix_tup (pv 2) pe_int (fun _ _ => rfl)) (fun _ _ => rfl)) pa_nil))))), ?_⟩)
  · obtain ⟨_, _, _, ⟨_, _, _, _, _, _, _, _, rfl, _⟩, _⟩ := h
    rfl
  · obtain ⟨M, P, hM, ⟨i, c, m, t, f, x, r, v, rfl, hc, hf, hv, hr, rfl⟩, k⟩ := h
    exact s_rk k (Same.refl _) (ev_tup (tr := tNil) hM (ev_ixL (ev_ends T (ev_category T (ev_o rfl) hc) hc.cat) (ev_n rfl) (arrows_at2 hf)) (ev_ixL (ev_ixL (ev_leads T (ev_o rfl) hc) (ev_n rfl) (leads_at hf)) (ev_ix1 (ev_d rfl hv)) (lead_at hr)))
theorem ok_led_to {f : Addr} {fd : FuncData} (F : Fun K "led_to" "Instance.led_to" s_led_to f fd) (T : Txt K mg CC CI CL WN) (g_arrows_from : MetOk P w K mg base CC 1 "arrows_from" ["self", "x"] (sp_arrows_from CC CI CL)) (g_led_along : MetOk P w K mg base CI 1 "led_along" ["self", "f", "row"] (sp_led_along CC CI CL)) : FnOk P w K mg base CX0 2 f fd ["self", "row"] (sp_led_to CC CI CL) := by
  refine F.ok sc_led_to (fun vs H Q E h => ?_) (fun cdv A outer s H vs Q E hr h => ⟨_, (pss_one (ps_ret (pe_lc (own := [("f", 2)]) (g := gName 2) (tt := tYes) (te := (tMeth CI "led_along" (sp_led_along CC CI CL) [] E0 (tVar 0) (tCons (tVar 2) (tCons (tVar 1) tNil)))) rfl sc_led_to.nd (pi_list (pe_methD (pe_fld (pv 0) rfl) T.cCC g_arrows_from (hr.mono (by decide)) (pa_cons (pe_ix ix_tup (pv 1) pe_int (fun _ _ => rfl)) pa_nil))) (blkOk_by (own := [("f", 2)]) (N := ["self", "row", "f"]) (sc := defScope s_led_to) (by decide +kernel)) (fun _ _ _ _ _ => pg_name (i := 2) sc_led_to.nd rfl (Or.inl rfl)) (fun _ _ _ _ _ => pts_nil) (fun _ _ _ _ _ => (pe_methD (pv 0) T.cCI g_led_along (hr.mono (by decide)) (pa_cons (pv 2) (pa_cons (pv 1) pa_nil))))))), ?_⟩)
  · obtain ⟨_, _, _, ⟨_, _, _, _, _, _, _, rfl, _⟩, _⟩ := h
    rfl
  · obtain ⟨M, P, hM, ⟨i, c, m, t, x, r, v, rfl, hc, ok, io, hv, hr, rfl⟩, k⟩ := h
    refine s_rk k (Same.refl _) ((ev_lc (f := fun f => (Fc05.to_ m f, Fc05.go m t f r)) (keep := fun _ => true) hM (ev_arrows_from hM (ev_category T (ev_o rfl) hc) hc.cat ok.eight (ev_ix0 (ev_d rfl hv))) (by have := from_len ok x; omega) (fun _ => rfl) (fun _ _ _ _ _ _ _ => et_yes) ?_).eq ?_)
    · intro f u M' H2 le hf _ hu
      obtain rfl := Is.nat hu
      have hf' := from_mem.mp hf
      refine ev_led_along le.tr (ev_o rfl) (hc.mono le.same) hf'.1 ?_ (ev_n rfl) (ev_d rfl (Is.mono le.same hv))
      rw [lead_len ok io hf'.1, hf'.2]
      exact hr
    · rw [List.filter_eq_self.mpr fun _ _ => rfl]
      rfl
end
end Im

namespace Im
open PySem PySem.Spec PyProof.Rows L2
section
variable {P : Program} {w : World} {K : PySem.W.Frag} {mg : Str → Option Value} {base : Heap} {CC CI CL WN : Addr}
theorem lead_ix {m : Fc05.Cat} {t : Fc05.Inst} {f r v : Nat} (h : (lead m t f)[r]? = some v) : v = Fc05.go m t f r ∧ r < (lead m t f).length := by
  have h1 := (List.getElem?_eq_some_iff.mp h).1
  rw [lead_at h1] at h
  exact ⟨(Option.some.inj h).symm, h1⟩
theorem ok_first_gap {f : Addr} {fd : FuncData} (F : Fun K "first_gap" "Instance.first_gap" s_first_gap f fd) (T : Txt K mg CC CI CL WN) (g_told_arrows : MetOk P w K mg base CC 1 "told_arrows" ["self"] (sp_told_arrows CC CI CL)) : FnOk P w K mg base CX0 2 f fd ["self"] (sp_first_gap CC CI CL) := by
  refine F.ok sc_first_gap (fun vs H Q E h => ?_) (fun cdv A outer s H vs Q E hr h => ⟨_, (pss_cons (ps_for PassesOwn.never rfl (pi_list (pe_methD0 (pe_fld (pv 0) rfl) T.cCC g_told_arrows (hr.mono (by decide)))) (pg_name (i := 1) sc_first_gap.nd rfl (Or.inl rfl)) (pss_cons (ps_set (i := 2) sc_first_gap.nd rfl (Or.inl rfl) (pe_ix ix_list (pe_fld (pv 0) rfl) (pe_ix ix_list (pe_fld (pe_fld (pv 0) rfl) rfl) (pv 1) (fun _ _ => rfl)) (fun _ _ => rfl)))
    (pss_one (ps_for PassesOwn.never rfl (pi_enum (by rfl) T.f_enumerate (pa_cons (pe_ix ix_list (pe_fld (pv 0) rfl) (pv 1) (fun _ _ => rfl)) pa_nil)) (pg_tup rfl (pgs_cons (pg_name (i := 3) sc_first_gap.nd rfl (Or.inl rfl)) (pgs_cons (pg_name (i := 4) sc_first_gap.nd rfl (Or.inl rfl)) pgs_nil))) (pss_cons (ps_if (pt_cmpR op_eq (pv 4) (pe_gI T.c_NOT_TOLD rfl) (nomark _)) (pss_one (ps_ret (pe_lst (pa_cons pe_int (pa_cons (pv 1) (pa_cons (pv 3) pa_nil)))))) pss_nil)
    (pss_one (ps_if (pt_cmpR op_ge (pv 4) (pv 2) (nomark _)) (pss_one (ps_ret (pe_lst (pa_cons pe_int (pa_cons (pv 1) (pa_cons (pv 3) pa_nil)))))) pss_nil)))))))
    (pss_one (ps_ret (pe_lst pa_nil)))), ?_⟩)
  · obtain ⟨_, _, _, ⟨_, _, _, _, rfl, _⟩, _⟩ := h
    rfl
  · obtain ⟨M, P, hM, ⟨i, c, m, t, rfl, hc, ok, io, rfl⟩, k⟩ := h
    refine s_forPS (M := M) (src := told m) (ev_told_arrows hM (ev_category T (ev_o rfl) hc) hc.cat ok.eight ok.nle) (fun j σ' => (∃ u w z y, σ' = [some (.ref i), u, w, z, y]) ∧ ((told m).take j).findSome? (gapF m t) = none) ⟨⟨_, _, _, _, rfl⟩, rfl⟩ ?_ ?_
    · rintro j f v σ' H1 N e1 hf ⟨⟨u, w, z, y, rfl⟩, hn⟩ hv nx
      obtain rfl := Is.nat hv
      have hf' := told_mem.mp (List.mem_of_getElem? hf)
      have hM1 := hM.mono e1
      have hc1 := hc.mono (hid_mono (M := M) e1)
      refine s_asgS (ev_ixL (ev_sizes T (ev_o rfl) hc1) (ev_ixL (ev_ends T (ev_category T (ev_o rfl) hc1) hc1.cat) (ev_n rfl) (arrows_at2 hf'.2)) (size_at io (from_lt ok hf'.2).2)) fun v2 H2 e2 hv2 => ?_
      obtain rfl := Is.nat hv2
      have hM2 := hM1.mono e2
      have hc2 := hc1.mono (hid_mono (M := M) e2)
      have ll := lead_len ok io hf'.2
      refine s_forEP (M := M) (src := lead m t f) (ea_cons (ev_ixL (ev_leads T (ev_o rfl) hc2) (ev_n rfl) (leads_at hf'.2)) ea_nil) (fun j σ' => (∃ z y, σ' = [some (.ref i), some (.int f), some (.int (Fc05.rows t (Fc05.to_ m f))), z, y]) ∧ ((List.range (Fc05.rows t (Fc05.from_ m f))).take j).findSome? (gapR m t f) = none) ⟨⟨_, _, rfl⟩, rfl⟩ ?_ ?_
      · rintro r q v3 σ' H3 N' e3 hq ⟨⟨z, y, rfl⟩, hn'⟩ hv3 nx'
        obtain rfl := Is.nat hv3
        obtain ⟨rfl, hr⟩ := lead_ix hq
        have hr2 : (List.range (Fc05.rows t (Fc05.from_ m f)))[r]? = some r := List.getElem?_range (by rw [← ll]; exact hr)
        have hM3 := hM2.mono e3
        refine s_ifN (et_test (M := M) (ev_eqN (ev_n rfl) (ev_cn (n := 99)))) (fun hb H4 e4 => ?_) fun hb H4 e4 => ?_
        · refine s_rk k (((e1.trans e2).trans e3).trans e4) ((ev_lst3 (hM3.mono e4) (ev_cn (n := 1)) (ev_n rfl) (ev_n rfl)).eq ?_)
          have g1 : gapR m t f r = some [1, f, r] := by rw [gapR, if_pos (of_decide_eq_true hb)]
          have g2 : gapO m t = some [1, f, r] := find_hit hf hn (find_hit hr2 hn' g1)
          rw [g2]
          rfl
        · refine s_if (et_test (M := M) (ev_ge (ev_n rfl) (ev_n rfl))) (fun hb' H5 e5 => ?_) fun hb' H5 e5 => ?_
          · refine s_rk k ((((e1.trans e2).trans e3).trans e4).trans e5) ((ev_lst3 ((hM3.mono e4).mono e5) (ev_cn (n := 2)) (ev_n rfl) (ev_n rfl)).eq ?_)
            have g1 : gapR m t f r = some [2, f, r] := by rw [gapR, if_neg (of_decide_eq_false hb), if_pos (of_decide_eq_true hb')]
            have g2 : gapO m t = some [2, f, r] := find_hit hf hn (find_hit hr2 hn' g1)
            rw [g2]
            rfl
          · refine nx' _ _ ⟨⟨_, _, rfl⟩, ?_⟩ (e4.trans e5)
            rw [find_take hr2 hn', gapR, if_neg (of_decide_eq_false hb), if_neg (of_decide_eq_false hb')]
      · rintro σ' H3 e3 ⟨⟨z, y, rfl⟩, hn'⟩
        refine nx _ _ ⟨⟨_, _, _, _, rfl⟩, ?_⟩ (e2.trans e3)
        rw [find_take hf hn, gapF]
        rw [ll, List.take_of_length_le (by rw [List.length_range]; omega)] at hn'
        exact hn'
    · rintro σ' H1 e1 ⟨⟨u, w, z, y, rfl⟩, hn⟩
      rw [List.take_length] at hn
      refine s_rk k e1 ((ev_lst0 (hM.mono e1)).eq ?_)
      have g2 : gapO m t = none := hn
      rw [g2]
      rfl
theorem ok_first_detour {f : Addr} {fd : FuncData} (F : Fun K "first_detour" "Instance.first_detour" s_first_detour f fd) (T : Txt K mg CC CI CL WN) (g_meeting_pairs : MetOk P w K mg base CC 2 "meeting_pairs" ["self"] (sp_meeting_pairs CC CI CL)) (g_what_make : MetOk P w K mg base CC 2 "what_make" ["self", "f", "g"] (sp_what_make CC CI CL)) : FnOk P w K mg base CX0 3 f fd ["self"] (sp_first_detour CC CI CL) := by
  refine F.ok sc_first_detour (fun vs H Q E h => ?_) (fun cdv A outer s H vs Q E hr h => ⟨_, (pss_cons (ps_for PassesOwn.never rfl (pi_list (pe_methD0 (pe_fld (pv 0) rfl) T.cCC g_meeting_pairs (hr.mono (by decide)))) (pg_tup rfl (pgs_cons (pg_name (i := 1) sc_first_detour.nd rfl (Or.inl rfl)) (pgs_cons (pg_name (i := 2) sc_first_detour.nd rfl (Or.inl rfl)) pgs_nil))) (pss_cons (ps_set (i := 3) sc_first_detour.nd rfl (Or.inl rfl) (pe_ix ix_list (pe_fld (pv 0) rfl) (pe_methD (pe_fld (pv 0) rfl) T.cCC g_what_make (hr.mono (by decide)) (pa_cons (pv 1) (pa_cons (pv 2) pa_nil))) (fun _ _ => rfl)))
    (pss_one (ps_for PassesOwn.never rfl (pi_enum (by rfl) T.f_enumerate (pa_cons (pe_ix ix_list (pe_fld (pv 0) rfl) (pv 1) (fun _ _ => rfl)) pa_nil)) (pg_tup rfl (pgs_cons (pg_name (i := 4) sc_first_detour.nd rfl (Or.inl rfl)) (pgs_cons (pg_name (i := 5) sc_first_detour.nd rfl (Or.inl rfl)) pgs_nil))) (pss_one (ps_if (pt_cmpR op_ne (pe_ix ix_list (pe_ix ix_list (pe_fld (pv 0) rfl) (pv 2) (fun _ _ => rfl)) (pv 5) (fun _ _ => rfl)) (pe_ix ix_list (pv 3) (pv 4) (fun _ _ => rfl)) (nomark _)) (pss_one (ps_ret (pe_lst (pa_cons pe_int (pa_cons (pv 1) (pa_cons (pv 2) (pa_cons (pv 4) pa_nil))))))) pss_nil))))))
    (pss_one (ps_ret (pe_lst pa_nil)))), ?_⟩)
  · obtain ⟨_, _, _, ⟨_, _, _, _, rfl, _⟩, _⟩ := h
    rfl
  · obtain ⟨M, P, hM, ⟨i, c, m, t, rfl, hc, ok, io, hcat, hgap, rfl⟩, k⟩ := h
    refine s_forPS (M := M) (src := pairs m) (ev_meeting_pairs hM (ev_category T (ev_o rfl) hc) hc.cat ok) (fun j σ' => (∃ u w z y s, σ' = [some (.ref i), u, w, z, y, s]) ∧ ((pairs m).take j).findSome? (detF m t) = none) ⟨⟨_, _, _, _, _, rfl⟩, rfl⟩ ?_ ?_
    · rintro j ⟨f, g⟩ v σ' H1 N e1 hx ⟨⟨u, w, z, y, s, rfl⟩, hn⟩ hv nx
      have hm := pairs_mem.mp (List.mem_of_getElem? hx)
      have hf' := told_mem.mp hm.1
      have hg' := told_mem.mp hm.2.1
      have hM1 := hM.mono e1
      have hc1 := hc.mono (hid_mono (M := M) e1)
      have hall := (Bool.and_eq_true_iff.mp hcat).1
      obtain ⟨a, ha, ha1, ha2⟩ := catB_fit hall (pairs_mem.mpr hm)
      have hal := mkOf_lt ok hf'.2 hg'.2 ha
      refine g_pair hid_sub hv ?_
      refine s_asgS (ev_ixL (ev_leads T (ev_o rfl) hc1) (ev_what_makeS hM1 (ev_category T (ev_o rfl) hc1) hc1.cat ha (ev_n rfl) (ev_n rfl)) (leads_at hal)) fun v2 H2 e2 hv2 => ?_
      have hM2 := hM1.mono e2
      have hc2 := hc1.mono (hid_mono (M := M) e2)
      have ll := lead_len ok io hf'.2
      refine s_forEP (M := M) (src := lead m t f) (ea_cons (ev_ixL (ev_leads T (ev_o rfl) hc2) (ev_n rfl) (leads_at hf'.2)) ea_nil) (fun j σ' => (∃ z y, σ' = [some (.ref i), some (.int f), some (.int g), some v2, z, y]) ∧ ((List.range (Fc05.rows t (Fc05.from_ m f))).take j).findSome? (detR m t f g a) = none) ⟨⟨_, _, rfl⟩, rfl⟩ ?_ ?_
      · rintro r q v3 σ' H3 N' e3 hq ⟨⟨z, y, rfl⟩, hn'⟩ hv3 nx'
        obtain rfl := Is.nat hv3
        obtain ⟨rfl, hr⟩ := lead_ix hq
        have hr1 : r < Fc05.rows t (Fc05.from_ m f) := by rw [← ll]; exact hr
        have hr2 : (List.range (Fc05.rows t (Fc05.from_ m f)))[r]? = some r := List.getElem?_range hr1
        have hM3 := hM2.mono e3
        have hc3 := hc2.mono (hid_mono (M := M) e3)
        have hgo := gap_none hgap hm.1 hr1
        have l1 : (lead m t g)[Fc05.go m t f r]? = some (Fc05.go m t g (Fc05.go m t f r)) := lead_at (by rw [lead_len ok io hg'.2, ← hm.2.2]; exact hgo)
        have l2 : (lead m t a)[r]? = some (Fc05.go m t a r) := lead_at (by rw [lead_len ok io hal, ha1]; exact hr1)
        refine s_if (et_test (M := M) (ev_neN (ev_ixL (ev_ixL (ev_leads T (ev_o rfl) hc3) (ev_n rfl) (leads_at hg'.2)) (ev_n rfl) l1) (ev_ixL (ev_d rfl (Is.mono (hid_mono e3) hv2)) (ev_n rfl) l2))) (fun hb H4 e4 => ?_) fun hb H4 e4 => ?_
        · refine s_rk k (((e1.trans e2).trans e3).trans e4) ((ev_lst (l := [3, f, g, r]) (hM3.mono e4) (by simp) ⟨_, _, rfl, ev_cn (n := 3), _, _, rfl, ev_n rfl, _, _, rfl, ev_n rfl, _, _, rfl, ev_n rfl, rfl⟩).eq ?_)
          have hb' : ¬ Fc05.go m t g (Fc05.go m t f r) = Fc05.go m t a r := by simpa using hb
          have g1 : detR m t f g a r = some [3, f, g, r] := by rw [detR, if_neg hb']
          have g2 : detO m t = some [3, f, g, r] := find_hit hx hn (by
            show detF m t (f, g) = some [3, f, g, r]
            unfold detF
            simp only [ha]
            exact find_hit hr2 hn' g1)
          rw [g2]
          rfl
        · refine nx' _ _ ⟨⟨_, _, rfl⟩, ?_⟩ e4
          have hb' : Fc05.go m t g (Fc05.go m t f r) = Fc05.go m t a r := by simpa using hb
          rw [find_take hr2 hn', detR, if_pos hb']
      · rintro σ' H3 e3 ⟨⟨z, y, rfl⟩, hn'⟩
        refine nx _ _ ⟨⟨_, _, _, _, _, rfl⟩, ?_⟩ (e2.trans e3)
        rw [find_take hx hn]
        unfold detF
        simp only [ha]
        rw [ll, List.take_of_length_le (by rw [List.length_range]; omega)] at hn'
        exact hn'
    · rintro σ' H1 e1 ⟨⟨u, w, z, y, s, rfl⟩, hn⟩
      rw [List.take_length] at hn
      refine s_rk k e1 ((ev_lst0 (hM.mono e1)).eq ?_)
      have g2 : detO m t = none := hn
      rw [g2]
      rfl
theorem ok_first_fault {f : Addr} {fd : FuncData} (F : Fun K "first_fault" "Instance.first_fault" s_first_fault f fd) (T : Txt K mg CC CI CL WN) (g_first_detour : MetOk P w K mg base CI 3 "first_detour" ["self"] (sp_first_detour CC CI CL)) (g_first_gap : MetOk P w K mg base CI 2 "first_gap" ["self"] (sp_first_gap CC CI CL)) : FnOk P w K mg base CX0 4 f fd ["self"] (sp_first_fault CC CI CL) := by
  refine F.ok sc_first_fault (fun vs H Q E h => ?_) (fun cdv A outer s H vs Q E hr h => ⟨_, (pss_cons (ps_set (i := 1) sc_first_fault.nd rfl (Or.inl rfl) (pe_methD0 (pv 0) T.cCI g_first_gap (hr.mono (by decide))))
    (pss_cons (ps_if (pt_cmpR (op_eqD hr.units) (pv 1) (pe_lst pa_nil) (nomark _)) (pss_one (ps_set (i := 1) sc_first_fault.nd rfl (Or.inl rfl) (pe_methD0 (pv 0) T.cCI g_first_detour (hr.mono (by decide))))) pss_nil)
    (pss_one (ps_ret (pv 1))))), ?_⟩)
  · obtain ⟨_, _, _, ⟨_, _, _, _, rfl, _⟩, _⟩ := h
    rfl
  · obtain ⟨M, P, hM, ⟨i, c, m, t, rfl, hc, ok, io, hcat, rfl⟩, k⟩ := h
    refine s_asgS (ev_first_gap hM (ev_o rfl) hc ok io) fun v H1 e1 hv => ?_
    have hM1 := hM.mono e1
    have hc1 := hc.mono (hid_mono (M := M) e1)
    refine s_ifN (et_test (M := M) (ev_eqD (a := (gapO m t).getD []) (b := []) (by decide) (ev_d rfl hv) (ev_lst0 hM1))) (fun hb H2 e2 => ?_) fun hb H2 e2 => ?_
    · have hg : gapO m t = none := by
        cases e : gapO m t with
        | none => rfl
        | some l =>
          rw [e] at hb
          exact absurd (of_decide_eq_true hb) (gapO_ne e)
      refine s_asg (M := M) (ev_first_detour (hM1.mono e2) (ev_o rfl) (hc1.mono (hid_mono e2)) ok io hcat hg) fun v2 H3 e3 hv2 => ?_
      refine s_rk k ((e1.trans e2).trans e3) ((ev_d rfl hv2).eq ?_)
      unfold faultL
      rw [hg]
    · refine s_rk k (e1.trans e2) ((ev_d rfl (Is.mono (hid_mono e2) hv)).eq ?_)
      unfold faultL
      cases e : gapO m t with
      | none =>
        rw [e] at hb
        exact absurd rfl (of_decide_eq_false hb)
      | some l => rfl
theorem ok_is_right {f : Addr} {fd : FuncData} (F : Fun K "is_right" "Instance.is_right" s_is_right f fd) (T : Txt K mg CC CI CL WN) (g_first_fault : MetOk P w K mg base CI 4 "first_fault" ["self"] (sp_first_fault CC CI CL)) (g_is_category : MetOk P w K mg base CC 4 "is_category" ["self"] (sp_is_category CC CI CL)) : FnOk P w K mg base CX0 5 f fd ["self"] (sp_is_right CC CI CL) := by
  refine F.ok sc_is_right (fun vs H Q E h => ?_) (fun cdv A outer s H vs Q E hr h => ⟨_, (pss_one (ps_ret (pe_and (pe_methD0 (pe_fld (pv 0) rfl) T.cCC g_is_category (hr.mono (by decide))) (pe_one (pe_cmpR (op_eqD hr.units) (pe_methD0 (pv 0) T.cCI g_first_fault (hr.mono (by decide))) (pe_lst pa_nil) (nomark _)))))), ?_⟩)
  · obtain ⟨_, _, _, ⟨_, _, _, _, rfl, _⟩, _⟩ := h
    rfl
  · obtain ⟨M, P, hM, ⟨i, c, m, t, rfl, hc, ok, io, rfl⟩, k⟩ := h
    exact s_rk k (Same.refl _) (ev_andV (ev_is_category hM (ev_category T (ev_o rfl) hc) hc.cat ok) fun hb => ev_eqD (by decide) (ev_first_fault hM (ev_o rfl) hc ok io hb) (ev_lst0 hM))
end
end Im

namespace Im
open PySem PySem.Spec PyProof.Rows L2
def chStep {α : Type} (found : List (List α)) (x : α) : List (List α) := found.flatMap fun s => [s, s ++ [x]]
def choices {α : Type} (l : List α) : List (List α) := l.foldl chStep [[]]
section
variable {α : Type}
theorem chStep_len (found : List (List α)) (x : α) : (chStep found x).length = 2 * found.length := by
  unfold chStep
  induction found with
  | nil => rfl
  | cons a l ih =>
    rw [List.flatMap_cons, List.length_append, ih, List.length_cons]
    simp
    omega
theorem choices_more {l : List α} {i : Nat} {x : α} (h : l[i]? = some x) : choices (l.take (i + 1)) = chStep (choices (l.take i)) x := by
  unfold choices
  rw [tk_more h, List.foldl_append]
  rfl
theorem foldl_ch_len (l : List α) : ∀ s : List (List α), (l.foldl chStep s).length = 2 ^ l.length * s.length := by
  induction l with
  | nil => intro s; simp
  | cons a l ih =>
    intro s
    rw [List.foldl_cons, ih, chStep_len, List.length_cons, Nat.pow_succ, Nat.mul_assoc]
theorem choices_len (l : List α) : (choices l).length = 2 ^ l.length := by
  unfold choices
  rw [foldl_ch_len]
  simp
theorem choices_len8 {l : List α} {i : Nat} (h : l.length ≤ 8) : (choices (l.take i)).length ≤ 256 := by
  rw [choices_len]
  have : (l.take i).length ≤ 8 := by rw [List.length_take]; omega
  exact Nat.pow_le_pow_right (by decide) this
/-- what is chosen is of the members -/
theorem choices_sub (l : List α) : ∀ s ∈ choices l, ∀ x ∈ s, x ∈ l := by
  have : ∀ (l : List α) (f : List (List α)) (k : List α), (∀ s ∈ f, ∀ x ∈ s, x ∈ k) → ∀ s ∈ l.foldl chStep f, ∀ x ∈ s, x ∈ k ++ l := by
    intro l
    induction l with
    | nil => intro f k h s hs x hx; simpa using h s hs x hx
    | cons a l ih =>
      intro f k h s hs x hx
      rw [List.foldl_cons] at hs
      have := ih (chStep f a) (k ++ [a]) (fun s' hs' y hy => by
        unfold chStep at hs'
        rw [List.mem_flatMap] at hs'
        obtain ⟨r, hr, hs'⟩ := hs'
        rcases List.mem_cons.mp hs' with rfl | hs'
        · exact List.mem_append_left _ (h _ hr y hy)
        · obtain rfl := List.mem_singleton.mp hs'
          rcases List.mem_append.mp hy with q | q
          · exact List.mem_append_left _ (h _ hr y q)
          · exact List.mem_append_right _ q) s hs x hx
      simpa using this
  intro s hs x hx
  have := this l [[]] [] (by simp) s hs x hx
  simpa using this
theorem choices_short (l : List α) : ∀ s ∈ choices l, s.length ≤ l.length := by
  have : ∀ (l : List α) (f : List (List α)) (k : Nat), (∀ s ∈ f, s.length ≤ k) → ∀ s ∈ l.foldl chStep f, s.length ≤ k + l.length := by
    intro l
    induction l with
    | nil => intro f k h s hs; simpa using h s hs
    | cons a l ih =>
      intro f k h s hs
      rw [List.foldl_cons] at hs
      have := ih (chStep f a) (k + 1) (fun s' hs' => by
        unfold chStep at hs'
        rw [List.mem_flatMap] at hs'
        obtain ⟨r, hr, hs'⟩ := hs'
        have := h r hr
        rcases List.mem_cons.mp hs' with rfl | hs'
        · omega
        · obtain rfl := List.mem_singleton.mp hs'
          rw [List.length_append, List.length_singleton]
          omega) s hs
      rw [List.length_cons]
      omega
  intro s hs
  have := this l [[]] 0 (by simp) s hs
  omega
end
def withinB (p q : List (Nat × Nat)) : Bool := decide ((p.filter fun r => decide (r ∈ q)) = p)
section
variable (m : Fc05.Cat) (t : Fc05.Inst)
def broughtL (rows : List (Nat × Nat)) : List (Nat × Nat) := (Fc05.places m t).filter fun r => decide (r ∈ rows.flatMap (ledTo m t))
def rowImp (p q : List (Nat × Nat)) (r : Nat × Nat) : Bool := (ledTo m t r).all fun s => !(decide (s ∈ p) && !decide (s ∈ q))
def impL (p q : List (Nat × Nat)) : List (Nat × Nat) := (Fc05.places m t).filter (rowImp m t p q)
def joinL (p q : List (Nat × Nat)) : List (Nat × Nat) := (Fc05.places m t).filter fun r => decide (r ∈ p) || decide (r ∈ q)
def betwL (p : List (Nat × Nat)) : List (Nat × Nat) := (Fc05.places m t).filter fun r => !decide (r ∈ p) && !decide (r ∈ impL m t p [])
def intoL (p : List (Nat × Nat)) (x r : Nat) : List Nat := (arrowsFrom m x).filter fun f => decide ((Fc05.to_ m f, Fc05.go m t f r) ∈ p)
def isPartB (rows : List (Nat × Nat)) : Bool := rows.all fun r => withinB (ledTo m t r) rows
def partsL : List (List (Nat × Nat)) := (choices (Fc05.places m t)).filter (isPartB m t)
def closedB (some : List Nat) : Bool := some.all fun f => (arrowsFrom m (Fc05.to_ m f)).all fun g => match mkOf m f g with
  | none => false
  | .some h => decide (h ∈ some)
def closedL (x : Nat) : List (List Nat) := (choices (arrowsFrom m x)).filter (closedB m)
def noneL (missed : List (Nat × Nat)) (r : Nat × Nat) : Bool := (ledTo m t r).all fun s => !decide (s ∈ missed)
end
def InAt (CC CI : Addr) (G : Hp) (i : Addr) (m : Fc05.Cat) (t : Fc05.Inst) : Prop := ∃ c, InstAt CC CI G i c m t ∧ CatOk m ∧ InstOk m t
theorem InAt.mono {CC CI : Addr} {G G' : Hp} {i : Addr} {m : Fc05.Cat} {t : Fc05.Inst} (e : Same G G') (h : InAt CC CI G i m t) : InAt CC CI G' i m t := by
  obtain ⟨c, h1, h2⟩ := h
  exact ⟨c, h1.mono e, h2⟩
def sp_all_choices (CC CI CL : Addr) : Sp := SpP fun vs G P => ∃ (α : Type) (_ : Enc α) (l : List α) (v : V), vs = [v] ∧ Is G v l ∧ l.length ≤ 8 ∧ P = .is (choices l)
def sp_met_part (CC CI CL : Addr) : Sp := SpP fun vs G P => ∃ (p q : List (Nat × Nat)) (v u : V), vs = [v, u] ∧ Is G v p ∧ Is G u q ∧ p.length ≤ 1000 ∧ P = .is (p.filter fun r => decide (r ∈ q))
def sp_is_within (CC CI CL : Addr) : Sp := SpP fun vs G P => ∃ (p q : List (Nat × Nat)) (v u : V), vs = [v, u] ∧ Is G v p ∧ Is G u q ∧ p.length ≤ 1000 ∧ P = .is (withinB p q)
def sp_brought_part (CC CI CL : Addr) : Sp := SpP fun vs G P => ∃ (i : Addr) (m : Fc05.Cat) (t : Fc05.Inst) (rows : List (Nat × Nat)) (v : V), vs = [.ref i, v] ∧ InAt CC CI G i m t ∧ Is G v rows ∧ rows.length ≤ 1000 ∧ (∀ r ∈ rows, r.2 < Fc05.rows t r.1) ∧ P = .is (broughtL m t rows)
def sp_joined_part (CC CI CL : Addr) : Sp := SpP fun vs G P => ∃ (i : Addr) (m : Fc05.Cat) (t : Fc05.Inst) (p q : List (Nat × Nat)) (v u : V), vs = [.ref i, v, u] ∧ InAt CC CI G i m t ∧ Is G v p ∧ Is G u q ∧ P = .is (joinL m t p q)
def sp_implied_part (CC CI CL : Addr) : Sp := SpP fun vs G P => ∃ (i : Addr) (m : Fc05.Cat) (t : Fc05.Inst) (p q : List (Nat × Nat)) (v u : V), vs = [.ref i, v, u] ∧ InAt CC CI G i m t ∧ Is G v p ∧ Is G u q ∧ P = .is (impL m t p q)
def sp_row_implies (CC CI CL : Addr) : Sp := SpP fun vs G P => ∃ (i : Addr) (m : Fc05.Cat) (t : Fc05.Inst) (x r : Nat) (p q : List (Nat × Nat)) (z v u : V), vs = [.ref i, z, v, u] ∧ InAt CC CI G i m t ∧ Is G z (x, r) ∧ r < Fc05.rows t x ∧ Is G v p ∧ Is G u q ∧ P = .is (rowImp m t p q (x, r))
def sp_not_part (CC CI CL : Addr) : Sp := SpP fun vs G P => ∃ (i : Addr) (m : Fc05.Cat) (t : Fc05.Inst) (p : List (Nat × Nat)) (v : V), vs = [.ref i, v] ∧ InAt CC CI G i m t ∧ Is G v p ∧ P = .is (impL m t p [])
def sp_rows_between (CC CI CL : Addr) : Sp := SpP fun vs G P => ∃ (i : Addr) (m : Fc05.Cat) (t : Fc05.Inst) (p : List (Nat × Nat)) (v : V), vs = [.ref i, v] ∧ InAt CC CI G i m t ∧ Is G v p ∧ P = .is (betwL m t p)
def sp_arrows_into (CC CI CL : Addr) : Sp := SpP fun vs G P => ∃ (i : Addr) (m : Fc05.Cat) (t : Fc05.Inst) (x r : Nat) (p : List (Nat × Nat)) (z v : V), vs = [.ref i, z, v] ∧ InAt CC CI G i m t ∧ Is G z (x, r) ∧ r < Fc05.rows t x ∧ Is G v p ∧ P = .is (intoL m t p x r)
def sp_is_part (CC CI CL : Addr) : Sp := SpP fun vs G P => ∃ (i : Addr) (m : Fc05.Cat) (t : Fc05.Inst) (rows : List (Nat × Nat)) (v : V), vs = [.ref i, v] ∧ InAt CC CI G i m t ∧ Is G v rows ∧ (∀ r ∈ rows, r.2 < Fc05.rows t r.1) ∧ P = .is (isPartB m t rows)
def sp_all_parts (CC CI CL : Addr) : Sp := SpP fun vs G P => ∃ (i : Addr) (m : Fc05.Cat) (t : Fc05.Inst), vs = [.ref i] ∧ InAt CC CI G i m t ∧ P = .is (partsL m t)
def sp_told_part (CC CI CL : Addr) : Sp := SpP fun vs G P => ∃ (p : List (Nat × Nat)) (v : V), vs = [v] ∧ Is G v p ∧ p.length ≤ 1000 ∧ P = .is (Fc05.told p)
def sp_is_closed (CC CI CL : Addr) : Sp := SpP fun vs G P => ∃ (c : Addr) (m : Fc05.Cat) (some : List Nat) (v : V), vs = [.ref c, v] ∧ CatAt CC G c m ∧ CatOk m ∧ catB m = true ∧ Is G v some ∧ (∀ f ∈ some, f < m.arrows.length) ∧ P = .is (closedB m some)
def sp_closed_sets (CC CI CL : Addr) : Sp := SpP fun vs G P => ∃ (c : Addr) (m : Fc05.Cat) (x : Nat), vs = [.ref c, .int x] ∧ CatAt CC G c m ∧ CatOk m ∧ catB m = true ∧ P = .is (closedL m x)
def sp_leads_to_none (CC CI CL : Addr) : Sp := SpP fun vs G P => ∃ (i : Addr) (m : Fc05.Cat) (t : Fc05.Inst) (x r : Nat) (p : List (Nat × Nat)) (z v : V), vs = [.ref i, z, v] ∧ InAt CC CI G i m t ∧ Is G z (x, r) ∧ r < Fc05.rows t x ∧ Is G v p ∧ P = .is (noneL m t p (x, r))
section
variable {P : Program} {w : World} {K : PySem.W.Frag} {mg : Str → Option Value} {base : Heap} {CC CI CL WN : Addr}
theorem places_len {m : Fc05.Cat} {t : Fc05.Inst} (ok : CatOk m) (io : InstOk m t) : (Fc05.places m t).length ≤ 6 := by
  have h : ∀ (l : List Nat) (k : Nat), ((List.range l.length).flatMap fun x => (List.range (l.getD x 0)).map fun r => (k + x, r)).length = l.foldl (fun a b => a + b) 0 := by
    intro l
    induction l with
    | nil => intro k; rfl
    | cons a l ih =>
      intro k
      rw [List.length_cons, List.range_succ_eq_map, List.flatMap_cons, List.length_append, List.length_map, List.length_range, List.foldl_cons, foldl_sum, List.flatMap_map, List.getD_cons_zero]
      have := ih (k + 1)
      rw [← this]
      have e : (fun x => (List.range ((a :: l).getD (Nat.succ x) 0)).map fun r => (k + Nat.succ x, r)) = fun x => (List.range (l.getD x 0)).map fun r => (k + 1 + x, r) := by
        funext x
        rw [List.getD_cons_succ]
        congr 1
        funext r
        rw [Nat.add_assoc, Nat.add_comm 1 x]
      rw [e]
      omega
  have h2 := h t.size 0
  unfold Fc05.places Fc05.things
  rw [← io.sz]
  have e : (fun x => (List.range (Fc05.rows t x)).map fun r => (x, r)) = fun x => (List.range (t.size.getD x 0)).map fun r => (0 + x, r) := by
    funext x
    rw [Nat.zero_add]
    rfl
  rw [e, h2]
  exact io.tot
theorem led_len {m : Fc05.Cat} (t : Fc05.Inst) (ok : CatOk m) (r : Nat × Nat) : (ledTo m t r).length ≤ 8 := by
  unfold ledTo
  rw [List.length_map]
  exact from_len ok _
theorem ok_all_choices {f : Addr} {fd : FuncData} (F : Fun K "all_choices" "all_choices" s_all_choices f fd) (T : Txt K mg CC CI CL WN) : FnOk P w K mg base CX0 1 f fd ["members"] (sp_all_choices CC CI CL) := by
  refine F.ok sc_all_choices (fun vs H Q E h => ?_) (fun cdv A outer s H vs Q E hr h => ⟨_, (pss_cons (ps_set (i := 1) sc_all_choices.nd rfl (Or.inl rfl) (pe_lst (pa_cons (pe_lst pa_nil) pa_nil)))
    (pss_cons (ps_for PassesOwn.never rfl (pi_list (pv 0)) (pg_name (i := 2) sc_all_choices.nd rfl (Or.inl rfl)) (pss_cons (ps_set (i := 3) sc_all_choices.nd rfl (Or.inl rfl) (pe_lst pa_nil))
    (pss_cons (ps_for PassesOwn.never rfl (pi_list (pv 1)) (pg_name (i := 4) sc_all_choices.nd rfl (Or.inl rfl)) (pss_cons (ps_expr (pe_bm PySem.F.plainAttrs_list PySem.F.slot_list_append PySem.F.type_list_append mt_append (pv 3) (pa_cons (pv 4) pa_nil)))
    (pss_one (ps_expr (pe_bm PySem.F.plainAttrs_list PySem.F.slot_list_append PySem.F.type_list_append mt_append (pv 3) (pa_cons (pe_op op_cat (pv 4) (pe_lst (pa_cons (pv 2) pa_nil))) pa_nil))))))
    (pss_one (ps_set (i := 1) sc_all_choices.nd rfl (Or.inl rfl) (pv 3))))))
    (pss_one (ps_ret (pv 1))))), ?_⟩)
  · obtain ⟨_, _, _, ⟨_, _, _, _, rfl, _⟩, _⟩ := h
    rfl
  · obtain ⟨M, P, hM, ⟨α, inst, l, v, rfl, hv, hl, rfl⟩, k⟩ := h
    refine s_asgS (M := M) (ev_lst1 (x := ([] : List α)) hM (ev_lst0 hM)) fun v1 H1 e1 hv1 => ?_
    have hM1 := hM.mono e1
    refine s_forQS (M := M) (src := l) (ev_d rfl (Is.mono (hid_mono e1) hv)) (fun i σ' H' => ∃ vf u w z, σ' = [some v, some vf, u, w, z] ∧ Is (hid M H') vf (choices (l.take i))) (fun H2 e2 => ⟨v1, _, _, _, rfl, Is.mono (hid_mono e2) hv1⟩) ?_ ?_
    · rintro i x vx σ' H2 N e2 hx ⟨vf, u, w, z, rfl, hvf⟩ hvx nx
      have hM2 := hM1.mono e2
      have a1 := choices_len8 (i := i) hl
      refine s_newS fun ll hll => ?_
      have c0 : Cw M H2 ll ([] : List (List α)) (upd H2 ll (.lst [])) := Cw.start
      refine s_forCS (acc := fun j => ((choices (l.take i)).take j).flatMap fun s => [s, s ++ [x]]) c0 (ev_d rfl (Is.mono (c0.le hM2 hll).same hvf)) rfl (fun _ σ' => ∃ z, σ' = [some v, some vf, some vx, some (.ref ll), z]) ⟨_, rfl⟩ ?_ ?_
      · rintro j s vs' σ' H3 N' e3 hs ⟨z, rfl⟩ cw hvs nx'
        have a2 : (((choices (l.take i)).take j).flatMap fun s => [s, s ++ [x]]).length ≤ 512 := by
          have := flatMap_len ((choices (l.take i)).take j) (fun s => [s, s ++ [x]]) 2 fun _ _ => Nat.le_refl _
          have h2 := take_sub (l := choices (l.take i)) (i := j)
          omega
        have a3 := choices_short _ s (List.mem_of_getElem? hs)
        have a4 := take_sub (l := l) (i := i)
        refine s_seq (s_appC cw (by omega) rfl (ev_d rfl hvs) fun H4 cw4 e4 => ?_)
        refine s_appC cw4 (by rw [List.length_append, List.length_singleton]; omega) rfl (ev_cat (by simp; omega) (cw4.le hM2 hll).tr (ev_d rfl (Is.mono e4 hvs)) (ev_lst1 (cw4.le hM2 hll).tr (ev_d rfl (Is.mono (cw4.le hM2 hll).same hvx)))) fun H5 cw5 e5 => nx' _ _ ⟨_, rfl⟩ ?_ (e4.trans e5)
        show Cw M H2 ll (List.flatMap _ _) H5
        rw [flatMap_take hs]
        rw [List.append_assoc] at cw5
        exact cw5
      · rintro σ' H3 e3 ⟨z, rfl⟩ cw
        rw [List.take_length] at cw
        refine s_asg (M := M) (ev_d (x := chStep (choices (l.take i)) x) rfl (cw.is hM2 hll)) fun v4 H4 e4 hv4 => nx _ _ ⟨v4, _, _, _, rfl, ?_⟩ ((cw.same hll).trans e4)
        rw [choices_more hx]
        exact hv4
    · rintro σ' H2 e2 ⟨vf, u, w, z, rfl, hvf⟩
      rw [List.take_length] at hvf
      exact s_rk k (e1.trans e2) (ev_d rfl hvf)
theorem ok_met_part {f : Addr} {fd : FuncData} (F : Fun K "met_part" "met_part" s_met_part f fd) (T : Txt K mg CC CI CL WN) : FnOk P w K mg base CX0 1 f fd ["p", "q"] (sp_met_part CC CI CL) := by
  refine F.ok sc_met_part (fun vs H Q E h => ?_) (fun cdv A outer s H vs Q E hr h => ⟨_, (pss_one (ps_ret (pe_lc (own := [("row", 2)]) (g := gName 2) (tt := (tTest (tOp (rInD K) (tVar 2) (tVar 1)))) (te := (tVar 2)) rfl sc_met_part.nd (pi_list (pv 0)) (blkOk_by (own := [("row", 2)]) (N := ["p", "q", "row"]) (sc := defScope s_met_part) (by decide +kernel)) (fun _ _ _ _ _ => pg_name (i := 2) sc_met_part.nd rfl (Or.inl rfl)) (fun _ _ _ _ _ => (pts_one (pt_cmpR (op_inD (hu65 hr)) (pv 2) (pv 1) (by rfl)))) (fun _ _ _ _ _ => (pv 2))))), ?_⟩)
  · obtain ⟨_, _, _, ⟨_, _, _, _, rfl, _⟩, _⟩ := h
    rfl
  · obtain ⟨M, P, hM, ⟨p, q, v, u, rfl, hv, hu, hz, rfl⟩, k⟩ := h
    refine s_rk k (Same.refl _) ((ev_lc (f := fun r => r) (keep := fun r => decide (r ∈ q)) hM (ev_d rfl hv) (by omega) (fun _ => rfl) (fun x z M' H2 le hx hzx => et_test (ev_inD (by decide) (ev_d rfl hzx) (ev_d rfl (Is.mono le.same hu)))) (fun x z M' H2 le hx _ hzx => ev_d rfl hzx)).eq ?_)
    rw [List.map_id']
end
end Im

namespace Im
open PySem PySem.Spec PyProof.Rows L2
abbrev Mv := (Nat × Nat) × (Nat × Nat)
def movesL (m : Fc05.Cat) (t : Fc05.Inst) (mp : List Nat) : List Mv := (Fc05.places m t).zipIdx.map fun x => (x.1, (x.1.1, mp.getD x.2 0))
def fwdL (m : Fc05.Cat) (t : Fc05.Inst) (mv : List Mv) (p : List (Nat × Nat)) : List (Nat × Nat) := (Fc05.places m t).filter fun r => decide (r ∈ (mv.filter fun x => decide (x.1 ∈ p)).map fun x => x.2)
def backL (mv : List Mv) (p : List (Nat × Nat)) : List (Nat × Nat) := (mv.filter fun x => decide (x.2 ∈ p)).map fun x => x.1
def allL (m : Fc05.Cat) (t : Fc05.Inst) (mv : List Mv) (p : List (Nat × Nat)) : List (Nat × Nat) := (Fc05.places m t).filter (noneL m t ((mv.filter fun x => !decide (x.1 ∈ p)).map fun x => x.2))
def sp_moves_of_map (CC CI CL : Addr) : Sp := SpP fun vs G P => ∃ (i : Addr) (m : Fc05.Cat) (t : Fc05.Inst) (mp : List Nat) (v : V), vs = [.ref i, v] ∧ InAt CC CI G i m t ∧ Is G v mp ∧ mp.length = (Fc05.places m t).length ∧ P = .is (movesL m t mp)
def sp_forward_part (CC CI CL : Addr) : Sp := SpP fun vs G P => ∃ (i : Addr) (m : Fc05.Cat) (t : Fc05.Inst) (mv : List Mv) (p : List (Nat × Nat)) (v u : V), vs = [.ref i, v, u] ∧ InAt CC CI G i m t ∧ Is G v mv ∧ mv.length ≤ 1000 ∧ Is G u p ∧ P = .is (fwdL m t mv p)
def sp_back_part (CC CI CL : Addr) : Sp := SpP fun vs G P => ∃ (mv : List Mv) (p : List (Nat × Nat)) (v u : V), vs = [v, u] ∧ Is G v mv ∧ mv.length ≤ 1000 ∧ Is G u p ∧ P = .is (backL mv p)
def sp_for_all_part (CC CI CL : Addr) : Sp := SpP fun vs G P => ∃ (i : Addr) (m : Fc05.Cat) (t : Fc05.Inst) (mv : List Mv) (p : List (Nat × Nat)) (v u : V), vs = [.ref i, v, u] ∧ InAt CC CI G i m t ∧ Is G v mv ∧ mv.length ≤ 1000 ∧ Is G u p ∧ P = .is (allL m t mv p)
section
variable {K : PySem.W.Frag} {mg : Str → Option Value} {CC CI CL WN c i : Addr} {m : Fc05.Cat} {t : Fc05.Inst} {M : Addr → Prop} {σ : L2.St} {H : Hp} {ta tx ty tz : TE} {f g h x r : Nat} {p q : List (Nat × Nat)} {mv : List Mv} {mp : List Nat}
theorem ev_all_choices {α : Type} [Enc α] {l : List α} (hM : Tr M H) (h8 : l.length ≤ 8) (h1 : Ev M tx σ H (.is l)) : Ev M (tCall (sp_all_choices CC CI CL) [] E0 (tCons tx tNil)) σ H (.is (choices l)) :=
  ev_call hM (ea_cons h1 ea_nil) fun vs H1 e hv => by
    obtain ⟨u, rfl, q1⟩ := hv.one
    exact ⟨α, _, l, u, rfl, q1, h8, rfl⟩
theorem ev_met_part (hM : Tr M H) (hz : p.length ≤ 1000) (h1 : Ev M tx σ H (.is p)) (h2 : Ev M ty σ H (.is q)) : Ev M (tCall (sp_met_part CC CI CL) [] E0 (tCons tx (tCons ty tNil))) σ H (.is (p.filter fun r => decide (r ∈ q))) :=
  ev_call hM (ea_cons h1 (ea_cons h2 ea_nil)) fun vs H1 e hv => by
    obtain ⟨u, w, rfl, q1, q2⟩ := hv.two
    exact ⟨p, q, u, w, rfl, q1, q2, hz, rfl⟩
theorem ev_is_within (hM : Tr M H) (hz : p.length ≤ 1000) (h1 : Ev M tx σ H (.is p)) (h2 : Ev M ty σ H (.is q)) : Ev M (tCall (sp_is_within CC CI CL) [] E0 (tCons tx (tCons ty tNil))) σ H (.is (withinB p q)) :=
  ev_call hM (ea_cons h1 (ea_cons h2 ea_nil)) fun vs H1 e hv => by
    obtain ⟨u, w, rfl, q1, q2⟩ := hv.two
    exact ⟨p, q, u, w, rfl, q1, q2, hz, rfl⟩
theorem ev_brought_part (hM : Tr M H) (ho : Ev M ta σ H (.val (.ref i))) (hi : InAt CC CI (hid M H) i m t) (hz : p.length ≤ 1000) (hr : ∀ r ∈ p, r.2 < Fc05.rows t r.1) (h1 : Ev M tx σ H (.is p)) : Ev M (tCall (sp_brought_part CC CI CL) [] E0 (tCons ta (tCons tx tNil))) σ H (.is (broughtL m t p)) :=
  ev_call hM (ea_cons ho (ea_cons h1 ea_nil)) fun vs H1 e hv => by
    obtain ⟨u, w, rfl, q1, q2⟩ := hv.two
    obtain rfl : u = .ref i := q1
    exact ⟨i, m, t, p, w, rfl, hi.mono (hid_mono e), q2, hz, hr, rfl⟩
theorem ev_joined_part (hM : Tr M H) (ho : Ev M ta σ H (.val (.ref i))) (hi : InAt CC CI (hid M H) i m t) (h1 : Ev M tx σ H (.is p)) (h2 : Ev M ty σ H (.is q)) : Ev M (tCall (sp_joined_part CC CI CL) [] E0 (tCons ta (tCons tx (tCons ty tNil)))) σ H (.is (joinL m t p q)) :=
  ev_call hM (ea_cons ho (ea_cons h1 (ea_cons h2 ea_nil))) fun vs H1 e hv => by
    obtain ⟨u, w, z, rfl, q1, q2, q3⟩ := hv.three
    obtain rfl : u = .ref i := q1
    exact ⟨i, m, t, p, q, w, z, rfl, hi.mono (hid_mono e), q2, q3, rfl⟩
theorem ev_implied_part (hM : Tr M H) (ho : Ev M ta σ H (.val (.ref i))) (hi : InAt CC CI (hid M H) i m t) (h1 : Ev M tx σ H (.is p)) (h2 : Ev M ty σ H (.is q)) : Ev M (tCall (sp_implied_part CC CI CL) [] E0 (tCons ta (tCons tx (tCons ty tNil)))) σ H (.is (impL m t p q)) :=
  ev_call hM (ea_cons ho (ea_cons h1 (ea_cons h2 ea_nil))) fun vs H1 e hv => by
    obtain ⟨u, w, z, rfl, q1, q2, q3⟩ := hv.three
    obtain rfl : u = .ref i := q1
    exact ⟨i, m, t, p, q, w, z, rfl, hi.mono (hid_mono e), q2, q3, rfl⟩
theorem ev_row_implies (hM : Tr M H) (ho : Ev M ta σ H (.val (.ref i))) (hi : InAt CC CI (hid M H) i m t) (hr : r < Fc05.rows t x) (h0 : Ev M tz σ H (.is (x, r))) (h1 : Ev M tx σ H (.is p)) (h2 : Ev M ty σ H (.is q)) : Ev M (tCall (sp_row_implies CC CI CL) [] E0 (tCons ta (tCons tz (tCons tx (tCons ty tNil))))) σ H (.is (rowImp m t p q (x, r))) :=
  ev_call hM (ea_cons ho (ea_cons h0 (ea_cons h1 (ea_cons h2 ea_nil)))) fun vs H1 e hv => by
    obtain ⟨u, w, z, y, rfl, q1, q2, q3, q4⟩ := hv.four
    obtain rfl : u = .ref i := q1
    exact ⟨i, m, t, x, r, p, q, w, z, y, rfl, hi.mono (hid_mono e), q2, hr, q3, q4, rfl⟩
theorem ev_not_part (hM : Tr M H) (ho : Ev M ta σ H (.val (.ref i))) (hi : InAt CC CI (hid M H) i m t) (h1 : Ev M tx σ H (.is p)) : Ev M (tCall (sp_not_part CC CI CL) [] E0 (tCons ta (tCons tx tNil))) σ H (.is (impL m t p [])) :=
  ev_call hM (ea_cons ho (ea_cons h1 ea_nil)) fun vs H1 e hv => by
    obtain ⟨u, w, rfl, q1, q2⟩ := hv.two
    obtain rfl : u = .ref i := q1
    exact ⟨i, m, t, p, w, rfl, hi.mono (hid_mono e), q2, rfl⟩
theorem ev_rows_between (hM : Tr M H) (ho : Ev M ta σ H (.val (.ref i))) (hi : InAt CC CI (hid M H) i m t) (h1 : Ev M tx σ H (.is p)) : Ev M (tCall (sp_rows_between CC CI CL) [] E0 (tCons ta (tCons tx tNil))) σ H (.is (betwL m t p)) :=
  ev_call hM (ea_cons ho (ea_cons h1 ea_nil)) fun vs H1 e hv => by
    obtain ⟨u, w, rfl, q1, q2⟩ := hv.two
    obtain rfl : u = .ref i := q1
    exact ⟨i, m, t, p, w, rfl, hi.mono (hid_mono e), q2, rfl⟩
theorem ev_arrows_into (hM : Tr M H) (ho : Ev M ta σ H (.val (.ref i))) (hi : InAt CC CI (hid M H) i m t) (hr : r < Fc05.rows t x) (h0 : Ev M tz σ H (.is (x, r))) (h1 : Ev M tx σ H (.is p)) : Ev M (tCall (sp_arrows_into CC CI CL) [] E0 (tCons ta (tCons tz (tCons tx tNil)))) σ H (.is (intoL m t p x r)) :=
  ev_call hM (ea_cons ho (ea_cons h0 (ea_cons h1 ea_nil))) fun vs H1 e hv => by
    obtain ⟨u, w, z, rfl, q1, q2, q3⟩ := hv.three
    obtain rfl : u = .ref i := q1
    exact ⟨i, m, t, x, r, p, w, z, rfl, hi.mono (hid_mono e), q2, hr, q3, rfl⟩
theorem ev_leads_to_none (hM : Tr M H) (ho : Ev M ta σ H (.val (.ref i))) (hi : InAt CC CI (hid M H) i m t) (hr : r < Fc05.rows t x) (h0 : Ev M tz σ H (.is (x, r))) (h1 : Ev M tx σ H (.is p)) : Ev M (tCall (sp_leads_to_none CC CI CL) [] E0 (tCons ta (tCons tz (tCons tx tNil)))) σ H (.is (noneL m t p (x, r))) :=
  ev_call hM (ea_cons ho (ea_cons h0 (ea_cons h1 ea_nil))) fun vs H1 e hv => by
    obtain ⟨u, w, z, rfl, q1, q2, q3⟩ := hv.three
    obtain rfl : u = .ref i := q1
    exact ⟨i, m, t, x, r, p, w, z, rfl, hi.mono (hid_mono e), q2, hr, q3, rfl⟩
theorem ev_is_part (hM : Tr M H) (ho : Ev M ta σ H (.val (.ref i))) (hi : InAt CC CI (hid M H) i m t) (hr : ∀ r ∈ p, r.2 < Fc05.rows t r.1) (h1 : Ev M tx σ H (.is p)) : Ev M (tCall (sp_is_part CC CI CL) [] E0 (tCons ta (tCons tx tNil))) σ H (.is (isPartB m t p)) :=
  ev_call hM (ea_cons ho (ea_cons h1 ea_nil)) fun vs H1 e hv => by
    obtain ⟨u, w, rfl, q1, q2⟩ := hv.two
    obtain rfl : u = .ref i := q1
    exact ⟨i, m, t, p, w, rfl, hi.mono (hid_mono e), q2, hr, rfl⟩
theorem ev_all_parts (hM : Tr M H) (ho : Ev M ta σ H (.val (.ref i))) (hi : InAt CC CI (hid M H) i m t) : Ev M (tCall (sp_all_parts CC CI CL) [] E0 (tCons ta tNil)) σ H (.is (partsL m t)) :=
  ev_call hM (ea_cons ho ea_nil) fun vs H1 e hv => by
    obtain ⟨u, rfl, q1⟩ := hv.one
    obtain rfl : u = .ref i := q1
    exact ⟨i, m, t, rfl, hi.mono (hid_mono e), rfl⟩
theorem ev_told_part (hM : Tr M H) (hz : p.length ≤ 1000) (h1 : Ev M tx σ H (.is p)) : Ev M (tCall (sp_told_part CC CI CL) [] E0 (tCons tx tNil)) σ H (.is (Fc05.told p)) :=
  ev_call hM (ea_cons h1 ea_nil) fun vs H1 e hv => by
    obtain ⟨u, rfl, q1⟩ := hv.one
    exact ⟨p, u, rfl, q1, hz, rfl⟩
theorem ev_is_closed {s : List Nat} (hM : Tr M H) (ho : Ev M ta σ H (.val (.ref c))) (hc : CatAt CC (hid M H) c m) (ok : CatOk m) (hb : catB m = true) (hs : ∀ f ∈ s, f < m.arrows.length) (h1 : Ev M tx σ H (.is s)) : Ev M (tCall (sp_is_closed CC CI CL) [] E0 (tCons ta (tCons tx tNil))) σ H (.is (closedB m s)) :=
  ev_call hM (ea_cons ho (ea_cons h1 ea_nil)) fun vs H1 e hv => by
    obtain ⟨u, w, rfl, q1, q2⟩ := hv.two
    obtain rfl : u = .ref c := q1
    exact ⟨c, m, s, w, rfl, hc.mono (hid_mono e), ok, hb, q2, hs, rfl⟩
theorem ev_closed_sets (hM : Tr M H) (ho : Ev M ta σ H (.val (.ref c))) (hc : CatAt CC (hid M H) c m) (ok : CatOk m) (hb : catB m = true) (h1 : Ev M tx σ H (.is x)) : Ev M (tCall (sp_closed_sets CC CI CL) [] E0 (tCons ta (tCons tx tNil))) σ H (.is (closedL m x)) :=
  ev_call hM (ea_cons ho (ea_cons h1 ea_nil)) fun vs H1 e hv => by
    obtain ⟨u, w, rfl, q1, q2⟩ := hv.two
    obtain rfl : u = .ref c := q1
    obtain rfl := Is.nat q2
    exact ⟨c, m, x, rfl, hc.mono (hid_mono e), ok, hb, rfl⟩
theorem ev_moves_of_map (hM : Tr M H) (ho : Ev M ta σ H (.val (.ref i))) (hi : InAt CC CI (hid M H) i m t) (hl : mp.length = (Fc05.places m t).length) (h1 : Ev M tx σ H (.is mp)) : Ev M (tCall (sp_moves_of_map CC CI CL) [] E0 (tCons ta (tCons tx tNil))) σ H (.is (movesL m t mp)) :=
  ev_call hM (ea_cons ho (ea_cons h1 ea_nil)) fun vs H1 e hv => by
    obtain ⟨u, w, rfl, q1, q2⟩ := hv.two
    obtain rfl : u = .ref i := q1
    exact ⟨i, m, t, mp, w, rfl, hi.mono (hid_mono e), q2, hl, rfl⟩
theorem ev_forward_part (hM : Tr M H) (ho : Ev M ta σ H (.val (.ref i))) (hi : InAt CC CI (hid M H) i m t) (hz : mv.length ≤ 1000) (h1 : Ev M tx σ H (.is mv)) (h2 : Ev M ty σ H (.is p)) : Ev M (tCall (sp_forward_part CC CI CL) [] E0 (tCons ta (tCons tx (tCons ty tNil)))) σ H (.is (fwdL m t mv p)) :=
  ev_call hM (ea_cons ho (ea_cons h1 (ea_cons h2 ea_nil))) fun vs H1 e hv => by
    obtain ⟨u, w, z, rfl, q1, q2, q3⟩ := hv.three
    obtain rfl : u = .ref i := q1
    exact ⟨i, m, t, mv, p, w, z, rfl, hi.mono (hid_mono e), q2, hz, q3, rfl⟩
theorem ev_for_all_part (hM : Tr M H) (ho : Ev M ta σ H (.val (.ref i))) (hi : InAt CC CI (hid M H) i m t) (hz : mv.length ≤ 1000) (h1 : Ev M tx σ H (.is mv)) (h2 : Ev M ty σ H (.is p)) : Ev M (tCall (sp_for_all_part CC CI CL) [] E0 (tCons ta (tCons tx (tCons ty tNil)))) σ H (.is (allL m t mv p)) :=
  ev_call hM (ea_cons ho (ea_cons h1 (ea_cons h2 ea_nil))) fun vs H1 e hv => by
    obtain ⟨u, w, z, rfl, q1, q2, q3⟩ := hv.three
    obtain rfl : u = .ref i := q1
    exact ⟨i, m, t, mv, p, w, z, rfl, hi.mono (hid_mono e), q2, hz, q3, rfl⟩
theorem ev_back_part (hM : Tr M H) (hz : mv.length ≤ 1000) (h1 : Ev M tx σ H (.is mv)) (h2 : Ev M ty σ H (.is p)) : Ev M (tCall (sp_back_part CC CI CL) [] E0 (tCons tx (tCons ty tNil))) σ H (.is (backL mv p)) :=
  ev_call hM (ea_cons h1 (ea_cons h2 ea_nil)) fun vs H1 e hv => by
    obtain ⟨u, w, rfl, q1, q2⟩ := hv.two
    exact ⟨mv, p, u, w, rfl, q1, hz, q2, rfl⟩
end
theorem s_new1S {α : Type} [Enc α] {x : α} {M : Addr → Prop} {σ : L2.St} {H : Hp} {te : TE} {D : Ends} {rest : TS} {i : Nat} (h : Ev M te σ H (.is x)) (k : ∀ l H1 H2, Same H H1 → H1 l = none → Cw M H1 l [x] H2 → rest D (σ.set i (some (.ref l))) H2) : tSeq (tAsg (tLst (tCons te tNil)) (gName i)) rest D σ H :=
  h H (Same.refl H) _ fun v H1 e1 hv => ⟨by show 1 ≤ sizeLine; decide, fun l hl => k l H1 _ e1 hl ⟨fun b o hb h => by rw [upd_ne hb]; exact h, _, upd_same, by
    rw [also_new hl]
    exact isL_cons hv isL_nil⟩⟩
theorem is_natInt {H : Hp} {v : V} {l : List Nat} (h : Is H v l) : Is H v (l.map fun (n : Nat) => (n : Int)) := by
  unfold Is at h ⊢
  have e : Enc.enc (l.map fun (n : Nat) => (n : Int)) = Enc.enc l := by
    show PyData.list _ = PyData.list _
    rw [List.map_map]
    rfl
  rw [e]
  exact h
section
variable {P : Program} {w : World} {K : PySem.W.Frag} {mg : Str → Option Value} {base : Heap} {CC CI CL WN : Addr}
theorem ok_is_within {f : Addr} {fd : FuncData} (F : Fun K "is_within" "is_within" s_is_within f fd) (T : Txt K mg CC CI CL WN) (g_met_part : DefOk P w K mg base 1 "met_part" ["p", "q"] (sp_met_part CC CI CL)) : FnOk P w K mg base CX0 2 f fd ["p", "q"] (sp_is_within CC CI CL) := by
  refine F.ok sc_is_within (fun vs H Q E h => ?_) (fun cdv A outer s H vs Q E hr h => ⟨_, (pss_one (ps_ret (pe_cmpR (op_eqD hr.units) (pe_callD g_met_part (hr.mono (by decide)) rfl (pa_cons (pv 0) (pa_cons (pv 1) pa_nil))) (pv 0) (nomark _)))), ?_⟩)
  · obtain ⟨_, _, _, ⟨_, _, _, _, rfl, _⟩, _⟩ := h
    rfl
  · obtain ⟨M, P, hM, ⟨p, q, v, u, rfl, hv, hu, hz, rfl⟩, k⟩ := h
    exact s_rk k (Same.refl _) (ev_eqD (by decide) (ev_met_part hM hz (ev_d rfl hv) (ev_d rfl hu)) (ev_d rfl hv))
theorem ok_brought_part {f : Addr} {fd : FuncData} (F : Fun K "brought_part" "brought_part" s_brought_part f fd) (T : Txt K mg CC CI CL WN) (g_all_rows : MetOk P w K mg base CI 1 "all_rows" ["self"] (sp_all_rows CC CI CL)) (g_led_to : MetOk P w K mg base CI 2 "led_to" ["self", "row"] (sp_led_to CC CI CL)) : FnOk P w K mg base CX0 3 f fd ["instance", "rows"] (sp_brought_part CC CI CL) := by
  refine F.ok sc_brought_part (fun vs H Q E h => ?_) (fun cdv A outer s H vs Q E hr h => ⟨_, (pss_cons (ps_set (i := 2) sc_brought_part.nd rfl (Or.inr rfl) (pe_lst pa_nil))
    (pss_cons (ps_for PassesOwn.never rfl (pi_list (pv 1)) (pg_name (i := 3) sc_brought_part.nd rfl (Or.inl rfl)) (pss_one (ps_expr (pe_bm PySem.F.plainAttrs_list PySem.F.slot_list_extend PySem.F.type_list_extend mt_extend (pv 2) (pa_cons (pe_methD (pv 0) T.cCI g_led_to (hr.mono (by decide)) (pa_cons (pv 3) pa_nil)) pa_nil)))))
    (pss_one (ps_ret (pe_lc (own := [("row", 3)]) (g := gName 3) (tt := (tTest (tOp (rInD K) (tVar 3) (tVar 2)))) (te := (tVar 3)) rfl sc_brought_part.nd (pi_list (pe_methD0 (pv 0) T.cCI g_all_rows (hr.mono (by decide)))) (blkOk_by (own := [("row", 3)]) (N := ["instance", "rows", "reached", "row"]) (sc := defScope s_brought_part) (by decide +kernel)) (fun _ _ _ _ _ => pg_name (i := 3) sc_brought_part.nd rfl (Or.inl rfl)) (fun _ _ _ _ _ => (pts_one (pt_cmpR (op_inD (hu65 hr)) (pv 3) (pv 2) (by rfl)))) (fun _ _ _ _ _ => (pv 3))))))), ?_⟩)
  · obtain ⟨_, _, _, ⟨_, _, _, _, _, rfl, _⟩, _⟩ := h
    rfl
  · obtain ⟨M, P, hM, ⟨i, m, t, rows, v, rfl, ⟨c, hi, ok, io⟩, hv, hz, hr, rfl⟩, k⟩ := h
    refine s_newS fun l hl => ?_
    have c0 : Cw M H l ([] : List (Nat × Nat)) (upd H l (.lst [])) := Cw.start
    refine s_forCS (acc := fun j => (rows.take j).flatMap (ledTo m t)) c0 (ev_d rfl (Is.mono (c0.le hM hl).same hv)) rfl (fun _ σ' => ∃ z, σ' = [some (.ref i), some v, some (.ref l), z]) ⟨_, rfl⟩ ?_ ?_
    · rintro j ⟨x, r⟩ vx σ' H1 N e1 hx ⟨z, rfl⟩ cw hvx nx
      have le := cw.le hM hl
      have a1 := flatMap_len (rows.take j) (ledTo m t) 8 fun r _ => led_len t ok r
      have a2 := take_sub (l := rows) (i := j)
      have a3 := led_len t ok (x, r)
      refine s_extC cw (by omega) rfl (ev_led_to (x := x) (r := r) le.tr (ev_o rfl) (hi.mono le.same) ok io (hr (x, r) (List.mem_of_getElem? hx)) (ev_d rfl hvx)) fun H2 cw2 e2 => nx _ _ ⟨_, rfl⟩ ?_ e2
      show Cw M H l (List.flatMap _ _) H2
      rw [flatMap_take hx]
      exact cw2
    · rintro σ' H1 e1 ⟨z, rfl⟩ cw
      rw [List.take_length] at cw
      have e2 := cw.same hl
      refine s_rk k e2 ((ev_lc (f := fun r => r) (keep := fun r => decide (r ∈ rows.flatMap (ledTo m t))) (hM.mono e2) (ev_all_rows (hM.mono e2) (ev_o rfl) (hi.mono (hid_mono e2)) ok io) (by have := places_len ok io; omega) (fun _ => rfl)
        (fun x z M' H2 le hx hzx => et_test (ev_inD (by decide) (ev_d rfl hzx) (ev_d rfl (Is.mono le.same (cw.is hM hl))))) (fun x z M' H2 le hx _ hzx => ev_d rfl hzx)).eq ?_)
      rw [List.map_id']
      rfl
theorem ok_joined_part {f : Addr} {fd : FuncData} (F : Fun K "joined_part" "joined_part" s_joined_part f fd) (T : Txt K mg CC CI CL WN) (g_all_rows : MetOk P w K mg base CI 1 "all_rows" ["self"] (sp_all_rows CC CI CL)) : FnOk P w K mg base CX0 2 f fd ["instance", "p", "q"] (sp_joined_part CC CI CL) := by
  refine F.ok sc_joined_part (fun vs H Q E h => ?_) (fun cdv A outer s H vs Q E hr h => ⟨_, (pss_one (ps_ret (pe_lc (own := [("row", 3)]) (g := gName 3) (tt := (tOr (tTest (tOp (rInD K) (tVar 3) (tVar 1))) (tTest (tOp (rInD K) (tVar 3) (tVar 2))))) (te := (tVar 3)) rfl sc_joined_part.nd (pi_list (pe_methD0 (pv 0) T.cCI g_all_rows (hr.mono (by decide)))) (blkOk_by (own := [("row", 3)]) (N := ["instance", "p", "q", "row"]) (sc := defScope s_joined_part) (by decide +kernel)) (fun _ _ _ _ _ => pg_name (i := 3) sc_joined_part.nd rfl (Or.inl rfl)) (fun _ _ _ _ _ => (pts_one (PW.pt (pw_or (pt_cmpR (op_inD (hu65 hr)) (pv 3) (pv 1) (by rfl)) (pw_or1 (pt_cmpR (op_inD (hu65 hr)) (pv 3) (pv 2) (by rfl))))))) (fun _ _ _ _ _ => (pv 3))))), ?_⟩)
  · obtain ⟨_, _, _, ⟨_, _, _, _, _, _, _, rfl, _⟩, _⟩ := h
    rfl
  · obtain ⟨M, P, hM, ⟨i, m, t, p, q, v, u, rfl, ⟨c, hi, ok, io⟩, hv, hu, rfl⟩, k⟩ := h
    refine s_rk k (Same.refl _) ((ev_lc (f := fun r => r) (keep := fun r => decide (r ∈ p) || decide (r ∈ q)) hM (ev_all_rows hM (ev_o rfl) hi ok io) (by have := places_len ok io; omega) (fun _ => rfl)
      (fun x z M' H2 le hx hzx => et_or (et_test (ev_inD (by decide) (ev_d rfl hzx) (ev_d rfl (Is.mono le.same hv)))) fun _ => et_test (ev_inD (by decide) (ev_d rfl hzx) (ev_d rfl (Is.mono le.same hu)))) (fun x z M' H2 le hx _ hzx => ev_d rfl hzx)).eq ?_)
    rw [List.map_id']
    rfl
theorem ok_row_implies {f : Addr} {fd : FuncData} (F : Fun K "row_implies" "row_implies" s_row_implies f fd) (T : Txt K mg CC CI CL WN) (g_led_to : MetOk P w K mg base CI 2 "led_to" ["self", "row"] (sp_led_to CC CI CL)) : FnOk P w K mg base CX0 3 f fd ["instance", "row", "p", "q"] (sp_row_implies CC CI CL) := by
  refine F.ok sc_row_implies (fun vs H Q E h => ?_) (fun cdv A outer s H vs Q E hr h => ⟨_, (pss_cons (ps_for PassesOwn.never rfl (pi_list (pe_methD (pv 0) T.cCI g_led_to (hr.mono (by decide)) (pa_cons (pv 1) pa_nil))) (pg_name (i := 4) sc_row_implies.nd rfl (Or.inl rfl)) (pss_one (ps_if (PW.pt (pw_and (pt_cmpR (op_inD (hu65 hr)) (pv 4) (pv 2) (by rfl)) (pw_and1 (pt_cmpR (op_notInD (hu65 hr)) (pv 4) (pv 3) (by rfl))))) (pss_one (ps_ret pe_bl)) pss_nil)))
    (pss_one (ps_ret pe_bl))), ?_⟩)
  · obtain ⟨_, _, _, ⟨_, _, _, _, _, _, _, _, _, _, rfl, _⟩, _⟩ := h
    rfl
  · obtain ⟨M, P, hM, ⟨i, m, t, x, r, p, q, z, v, u, rfl, ⟨c, hi, ok, io⟩, hz, hr, hv, hu, rfl⟩, k⟩ := h
    refine s_forPS (M := M) (src := ledTo m t (x, r)) (ev_led_to hM (ev_o rfl) hi ok io hr (ev_d rfl hz)) (fun j σ' => (∃ y, σ' = [some (.ref i), some z, some v, some u, y]) ∧ ((ledTo m t (x, r)).take j).all (fun s => !(decide (s ∈ p) && !decide (s ∈ q))) = true) ⟨⟨_, rfl⟩, rfl⟩ ?_ ?_
    · rintro j s vs' σ' H1 N e1 hs ⟨⟨y, rfl⟩, hall⟩ hvs nx
      refine s_if (et_and (et_test (ev_inD (by decide) (ev_d rfl hvs) (ev_d rfl (Is.mono (hid_mono e1) hv)))) fun _ => et_test (ev_notInD (by decide) (ev_d rfl hvs) (ev_d rfl (Is.mono (hid_mono e1) hu)))) (fun hb H2 e2 => ?_) fun hb H2 e2 => ?_
      · refine s_rk k (e1.trans e2) ((ev_c (P := .is false) is_bool).eq ?_)
        symm
        unfold rowImp
        rw [List.all_eq_false]
        exact ⟨s, List.mem_of_getElem? hs, by rw [hb]; exact Bool.false_ne_true⟩
      · refine nx _ _ ⟨⟨_, rfl⟩, ?_⟩ e2
        rw [tk_more hs, List.all_append, hall, List.all_cons, hb]
        rfl
    · rintro σ' H1 e1 ⟨⟨y, rfl⟩, hall⟩
      rw [List.take_length] at hall
      exact s_rk k e1 ((ev_c (P := .is true) is_bool).eq hall.symm)
theorem ok_implied_part {f : Addr} {fd : FuncData} (F : Fun K "implied_part" "implied_part" s_implied_part f fd) (T : Txt K mg CC CI CL WN) (g_row_implies : DefOk P w K mg base 3 "row_implies" ["instance", "row", "p", "q"] (sp_row_implies CC CI CL)) (g_all_rows : MetOk P w K mg base CI 1 "all_rows" ["self"] (sp_all_rows CC CI CL)) : FnOk P w K mg base CX0 4 f fd ["instance", "p", "q"] (sp_implied_part CC CI CL) := by
  refine F.ok sc_implied_part (fun vs H Q E h => ?_) (fun cdv A outer s H vs Q E hr h => ⟨_, (pss_one (ps_ret (pe_lc (own := [("row", 3)]) (g := gName 3) (tt := (tB (tCall (sp_row_implies CC CI CL) [] E0 (tCons (tVar 0) (tCons (tVar 3) (tCons (tVar 1) (tCons (tVar 2) tNil))))))) (te := (tVar 3)) rfl sc_implied_part.nd (pi_list (pe_methD0 (pv 0) T.cCI g_all_rows (hr.mono (by decide)))) (blkOk_by (own := [("row", 3)]) (N := ["instance", "p", "q", "row"]) (sc := defScope s_implied_part) (by decide +kernel)) (fun _ _ _ _ _ => pg_name (i := 3) sc_implied_part.nd rfl (Or.inl rfl)) (fun _ _ _ _ _ => (pts_one (pt_val (pe_callD g_row_implies (hr.mono (by decide)) rfl (pa_cons (pv 0) (pa_cons (pv 3) (pa_cons (pv 1) (pa_cons (pv 2) pa_nil)))))))) (fun _ _ _ _ _ => (pv 3))))), ?_⟩)
  · obtain ⟨_, _, _, ⟨_, _, _, _, _, _, _, rfl, _⟩, _⟩ := h
    rfl
  · obtain ⟨M, P, hM, ⟨i, m, t, p, q, v, u, rfl, ⟨c, hi, ok, io⟩, hv, hu, rfl⟩, k⟩ := h
    refine s_rk k (Same.refl _) ((ev_lc (f := fun r => r) (keep := rowImp m t p q) hM (ev_all_rows hM (ev_o rfl) hi ok io) (by have := places_len ok io; omega) (fun _ => rfl)
      (fun x z M' H2 le hx hzx => et_B (ev_row_implies le.tr (ev_o rfl) ⟨c, hi.mono le.same, ok, io⟩ (places_mem.mp hx).2 (ev_d rfl hzx) (ev_d rfl (Is.mono le.same hv)) (ev_d rfl (Is.mono le.same hu)))) (fun x z M' H2 le hx _ hzx => ev_d rfl hzx)).eq ?_)
    rw [List.map_id']
    rfl
theorem ok_not_part {f : Addr} {fd : FuncData} (F : Fun K "not_part" "not_part" s_not_part f fd) (T : Txt K mg CC CI CL WN) (g_implied_part : DefOk P w K mg base 4 "implied_part" ["instance", "p", "q"] (sp_implied_part CC CI CL)) : FnOk P w K mg base CX0 5 f fd ["instance", "p"] (sp_not_part CC CI CL) := by
  refine F.ok sc_not_part (fun vs H Q E h => ?_) (fun cdv A outer s H vs Q E hr h => ⟨_, (pss_one (ps_ret (pe_callD g_implied_part (hr.mono (by decide)) rfl (pa_cons (pv 0) (pa_cons (pv 1) (pa_cons (pe_lst pa_nil) pa_nil)))))), ?_⟩)
  · obtain ⟨_, _, _, ⟨_, _, _, _, _, rfl, _⟩, _⟩ := h
    rfl
  · obtain ⟨M, P, hM, ⟨i, m, t, p, v, rfl, hi, hv, rfl⟩, k⟩ := h
    exact s_rk k (Same.refl _) (ev_implied_part hM (ev_o rfl) hi (ev_d rfl hv) (ev_lst0 hM))
theorem ok_rows_between {f : Addr} {fd : FuncData} (F : Fun K "rows_between" "rows_between" s_rows_between f fd) (T : Txt K mg CC CI CL WN) (g_all_rows : MetOk P w K mg base CI 1 "all_rows" ["self"] (sp_all_rows CC CI CL)) (g_not_part : DefOk P w K mg base 5 "not_part" ["instance", "p"] (sp_not_part CC CI CL)) : FnOk P w K mg base CX0 6 f fd ["instance", "p"] (sp_rows_between CC CI CL) := by
  refine F.ok sc_rows_between (fun vs H Q E h => ?_) (fun cdv A outer s H vs Q E hr h => ⟨_, (pss_cons (ps_set (i := 2) sc_rows_between.nd rfl (Or.inr rfl) (pe_callD g_not_part (hr.mono (by decide)) rfl (pa_cons (pv 0) (pa_cons (pv 1) pa_nil))))
    (pss_one (ps_ret (pe_lc (own := [("row", 3)]) (g := gName 3) (tt := (tAnd (tTest (tOp (rNotInD K) (tVar 3) (tVar 1))) (tTest (tOp (rNotInD K) (tVar 3) (tVar 2))))) (te := (tVar 3)) rfl sc_rows_between.nd (pi_list (pe_methD0 (pv 0) T.cCI g_all_rows (hr.mono (by decide)))) (blkOk_by (own := [("row", 3)]) (N := ["instance", "p", "without", "row"]) (sc := defScope s_rows_between) (by decide +kernel)) (fun _ _ _ _ _ => pg_name (i := 3) sc_rows_between.nd rfl (Or.inl rfl)) (fun _ _ _ _ _ => (pts_one (PW.pt (pw_and (pt_cmpR (op_notInD (hu65 hr)) (pv 3) (pv 1) (by rfl)) (pw_and1 (pt_cmpR (op_notInD (hu65 hr)) (pv 3) (pv 2) (by rfl))))))) (fun _ _ _ _ _ => (pv 3)))))), ?_⟩)
  · obtain ⟨_, _, _, ⟨_, _, _, _, _, rfl, _⟩, _⟩ := h
    rfl
  · obtain ⟨M, P, hM, ⟨i, m, t, p, v, rfl, hi, hv, rfl⟩, k⟩ := h
    refine s_asgS (M := M) (ev_not_part hM (ev_o rfl) hi (ev_d rfl hv)) fun vn H1 e1 hn => ?_
    obtain ⟨c, hi1, ok, io⟩ := hi.mono (hid_mono (M := M) e1)
    have hM1 := hM.mono e1
    refine s_rk k e1 ((ev_lc (f := fun r => r) (keep := fun r => !decide (r ∈ p) && !decide (r ∈ impL m t p [])) hM1 (ev_all_rows hM1 (ev_o rfl) hi1 ok io) (by have := places_len ok io; omega) (fun _ => rfl)
      (fun x z M' H2 le hx hzx => et_and (et_test (ev_notInD (by decide) (ev_d rfl hzx) (ev_d rfl (Is.mono le.same (Is.mono (hid_mono e1) hv))))) fun _ => et_test (ev_notInD (by decide) (ev_d rfl hzx) (ev_d rfl (Is.mono le.same hn)))) (fun x z M' H2 le hx _ hzx => ev_d rfl hzx)).eq ?_)
    rw [List.map_id']
    rfl
theorem ok_arrows_into {f : Addr} {fd : FuncData} (F : Fun K "arrows_into" "arrows_into" s_arrows_into f fd) (T : Txt K mg CC CI CL WN) (g_led_along : MetOk P w K mg base CI 1 "led_along" ["self", "f", "row"] (sp_led_along CC CI CL)) (g_arrows_from : MetOk P w K mg base CC 1 "arrows_from" ["self", "x"] (sp_arrows_from CC CI CL)) : FnOk P w K mg base CX0 2 f fd ["instance", "row", "p"] (sp_arrows_into CC CI CL) := by
  refine F.ok sc_arrows_into (fun vs H Q E h => ?_) (fun cdv A outer s H vs Q E hr h => ⟨_, (pss_one (ps_ret (pe_lc (own := [("f", 3)]) (g := gName 3) (tt := (tTest (tOp (rInD K) (tMeth CI "led_along" (sp_led_along CC CI CL) [] E0 (tVar 0) (tCons (tVar 3) (tCons (tVar 1) tNil))) (tVar 2)))) (te := (tVar 3)) rfl sc_arrows_into.nd (pi_list (pe_methD (pe_fld (pv 0) rfl) T.cCC g_arrows_from (hr.mono (by decide)) (pa_cons (pe_ix ix_tup (pv 1) pe_int (fun _ _ => rfl)) pa_nil))) (blkOk_by (own := [("f", 3)]) (N := ["instance", "row", "p", "f"]) (sc := defScope s_arrows_into) (by decide +kernel)) (fun _ _ _ _ _ => pg_name (i := 3) sc_arrows_into.nd rfl (Or.inl rfl)) (fun _ _ _ _ _ => (pts_one (pt_cmpR (op_inD (hu65 hr)) (pe_methD (pv 0) T.cCI g_led_along (hr.mono (by decide)) (pa_cons (pv 3) (pa_cons (pv 1) pa_nil))) (pv 2) (by rfl)))) (fun _ _ _ _ _ => (pv 3))))), ?_⟩)
  · obtain ⟨_, _, _, ⟨_, _, _, _, _, _, _, _, rfl, _⟩, _⟩ := h
    rfl
  · obtain ⟨M, P, hM, ⟨i, m, t, x, r, p, z, v, rfl, ⟨c, hi, ok, io⟩, hz, hr, hv, rfl⟩, k⟩ := h
    refine s_rk k (Same.refl _) ((ev_lc (f := fun r => r) (keep := fun f => decide ((Fc05.to_ m f, Fc05.go m t f r) ∈ p)) hM (ev_arrows_from hM (ev_category T (ev_o rfl) hi) hi.cat ok.eight (ev_ix0 (ev_d rfl hz))) (by have := from_len ok x; omega) (fun _ => rfl) ?_ (fun x z M' H2 le hx _ hzx => ev_d rfl hzx)).eq ?_)
    · intro f vf M' H2 le hf hvf
      obtain rfl := Is.nat hvf
      have hf' := from_mem.mp hf
      refine et_test (ev_inD (by decide) (ev_led_along le.tr (ev_o rfl) (hi.mono le.same) hf'.1 ?_ (ev_n rfl) (ev_d rfl (Is.mono le.same hz))) (ev_d rfl (Is.mono le.same hv)))
      rw [lead_len ok io hf'.1, hf'.2]
      exact hr
    · rw [List.map_id']
      rfl
theorem ok_is_part {f : Addr} {fd : FuncData} (F : Fun K "is_part" "is_part" s_is_part f fd) (T : Txt K mg CC CI CL WN) (g_is_within : DefOk P w K mg base 2 "is_within" ["p", "q"] (sp_is_within CC CI CL)) (g_led_to : MetOk P w K mg base CI 2 "led_to" ["self", "row"] (sp_led_to CC CI CL)) : FnOk P w K mg base CX0 3 f fd ["instance", "rows"] (sp_is_part CC CI CL) := by
  refine F.ok sc_is_part (fun vs H Q E h => ?_) (fun cdv A outer s H vs Q E hr h => ⟨_, (pss_cons (ps_for PassesOwn.never rfl (pi_list (pv 1)) (pg_name (i := 2) sc_is_part.nd rfl (Or.inl rfl)) (pss_one (ps_if (pt_not (pt_val (pe_callD g_is_within (hr.mono (by decide)) rfl (pa_cons (pe_methD (pv 0) T.cCI g_led_to (hr.mono (by decide)) (pa_cons (pv 2) pa_nil)) (pa_cons (pv 1) pa_nil))))) (pss_one (ps_ret pe_bl)) pss_nil)))
    (pss_one (ps_ret pe_bl))), ?_⟩)
  · obtain ⟨_, _, _, ⟨_, _, _, _, _, rfl, _⟩, _⟩ := h
    rfl
  · obtain ⟨M, P, hM, ⟨i, m, t, rows, v, rfl, ⟨c, hi, ok, io⟩, hv, hr, rfl⟩, k⟩ := h
    refine s_forPS (M := M) (src := rows) (ev_d rfl hv) (fun j σ' => (∃ y, σ' = [some (.ref i), some v, y]) ∧ (rows.take j).all (fun s => withinB (ledTo m t s) rows) = true) ⟨⟨_, rfl⟩, rfl⟩ ?_ ?_
    · rintro j ⟨x, r⟩ vs' σ' H1 N e1 hs ⟨⟨y, rfl⟩, hall⟩ hvs nx
      refine s_if (et_not (et_B (ev_is_within (hM.mono e1) (by have := led_len t ok (x, r); omega) (ev_led_to (x := x) (r := r) (hM.mono e1) (ev_o rfl) (hi.mono (hid_mono e1)) ok io (hr (x, r) (List.mem_of_getElem? hs)) (ev_d rfl hvs)) (ev_d rfl (Is.mono (hid_mono e1) hv))))) (fun hb H2 e2 => ?_) fun hb H2 e2 => ?_
      · refine s_rk k (e1.trans e2) ((ev_c (P := .is false) is_bool).eq ?_)
        symm
        unfold isPartB
        rw [List.all_eq_false]
        exact ⟨(x, r), List.mem_of_getElem? hs, by simpa using hb⟩
      · refine nx _ _ ⟨⟨_, rfl⟩, ?_⟩ e2
        have hb' : withinB (ledTo m t (x, r)) rows = true := by simpa using hb
        rw [tk_more hs, List.all_append, hall, List.all_cons, hb']
        rfl
    · rintro σ' H1 e1 ⟨⟨y, rfl⟩, hall⟩
      rw [List.take_length] at hall
      exact s_rk k e1 ((ev_c (P := .is true) is_bool).eq hall.symm)
theorem ok_all_parts {f : Addr} {fd : FuncData} (F : Fun K "all_parts" "all_parts" s_all_parts f fd) (T : Txt K mg CC CI CL WN) (g_is_part : DefOk P w K mg base 3 "is_part" ["instance", "rows"] (sp_is_part CC CI CL)) (g_all_choices : DefOk P w K mg base 1 "all_choices" ["members"] (sp_all_choices CC CI CL)) (g_all_rows : MetOk P w K mg base CI 1 "all_rows" ["self"] (sp_all_rows CC CI CL)) : FnOk P w K mg base CX0 4 f fd ["instance"] (sp_all_parts CC CI CL) := by
  refine F.ok sc_all_parts (fun vs H Q E h => ?_) (fun cdv A outer s H vs Q E hr h => ⟨_, (pss_one (ps_ret (pe_lc (own := [("some", 1)]) (g := gName 1) (tt := (tB (tCall (sp_is_part CC CI CL) [] E0 (tCons (tVar 0) (tCons (tVar 1) tNil))))) (te := (tVar 1)) rfl sc_all_parts.nd (pi_list (pe_callD g_all_choices (hr.mono (by decide)) rfl (pa_cons (pe_methD0 (pv 0) T.cCI g_all_rows (hr.mono (by decide))) pa_nil))) (blkOk_by (own := [("some", 1)]) (N := ["instance", "some"]) (sc := defScope s_all_parts) (by decide +kernel)) (fun _ _ _ _ _ => pg_name (i := 1) sc_all_parts.nd rfl (Or.inl rfl)) (fun _ _ _ _ _ => (pts_one (pt_val (pe_callD g_is_part (hr.mono (by decide)) rfl (pa_cons (pv 0) (pa_cons (pv 1) pa_nil)))))) (fun _ _ _ _ _ => (pv 1))))), ?_⟩)
  · obtain ⟨_, _, _, ⟨_, _, _, rfl, _⟩, _⟩ := h
    rfl
  · obtain ⟨M, P, hM, ⟨i, m, t, rfl, ⟨c, hi, ok, io⟩, rfl⟩, k⟩ := h
    have pl := places_len ok io
    refine s_rk k (Same.refl _) ((ev_lc (f := fun r => r) (keep := isPartB m t) hM (ev_all_choices hM (by omega) (ev_all_rows hM (ev_o rfl) hi ok io)) ?_ (fun _ => rfl)
      (fun x z M' H2 le hx hzx => et_B (ev_is_part le.tr (ev_o rfl) ⟨c, hi.mono le.same, ok, io⟩ (fun r hr => ?_) (ev_d rfl hzx))) (fun x z M' H2 le hx _ hzx => ev_d rfl hzx)).eq ?_)
    · have := choices_len8 (l := Fc05.places m t) (i := (Fc05.places m t).length) (by omega)
      rw [List.take_length] at this
      omega
    · exact (places_mem.mp (choices_sub _ x hx r hr)).2
    · rw [List.map_id']
      rfl
theorem ok_told_part {f : Addr} {fd : FuncData} (F : Fun K "told_part" "told_part" s_told_part f fd) (T : Txt K mg CC CI CL WN) : FnOk P w K mg base CX0 1 f fd ["part"] (sp_told_part CC CI CL) := by
  refine F.ok sc_told_part (fun vs H Q E h => ?_) (fun cdv A outer s H vs Q E hr h => ⟨_, (pss_cons (ps_set (i := 1) sc_told_part.nd rfl (Or.inl rfl) (pe_lst (pa_cons (pe_callB call_len_seq (by rfl) T.f_len PySem.boot_len (pa_cons (pv 0) pa_nil)) pa_nil)))
    (pss_cons (ps_for PassesOwn.never rfl (pi_list (pv 0)) (pg_name (i := 2) sc_told_part.nd rfl (Or.inl rfl)) (pss_cons (ps_expr (pe_bm PySem.F.plainAttrs_list PySem.F.slot_list_append PySem.F.type_list_append mt_append (pv 1) (pa_cons (pe_ix ix_tup (pv 2) pe_int (fun _ _ => rfl)) pa_nil)))
    (pss_one (ps_expr (pe_bm PySem.F.plainAttrs_list PySem.F.slot_list_append PySem.F.type_list_append mt_append (pv 1) (pa_cons (pe_ix ix_tup (pv 2) pe_int (fun _ _ => rfl)) pa_nil))))))
    (pss_one (ps_ret (pv 1))))), ?_⟩)
  · obtain ⟨_, _, _, ⟨_, _, rfl, _⟩, _⟩ := h
    rfl
  · obtain ⟨M, P, hM, ⟨p, v, rfl, hv, hz, rfl⟩, k⟩ := h
    refine s_new1S (M := M) (ev_len (ev_d rfl hv)) fun l H1 H1' e1 hl c0 => ?_
    have hM1 := hM.mono e1
    refine s_forCS (acc := fun j => p.length :: (p.take j).flatMap fun r => [r.1, r.2]) c0 (ev_d rfl (Is.mono ((c0.le hM1 hl).same) (Is.mono (hid_mono e1) hv))) rfl (fun _ σ' => ∃ z, σ' = [some v, some (.ref l), z]) ⟨_, rfl⟩ ?_ ?_
    · rintro j ⟨x, r⟩ vx σ' H2 N e2 hx ⟨z, rfl⟩ cw hvx nx
      have a1 := flatMap_len (p.take j) (fun r => [r.1, r.2]) 2 fun r _ => Nat.le_refl _
      have a2 := take_sub (l := p) (i := j)
      refine s_seq (s_appC cw (by rw [List.length_cons]; omega) rfl (ev_ix0 (ev_d rfl hvx)) fun H3 cw3 e3 => ?_)
      refine s_appC cw3 (by rw [List.length_append, List.length_cons, List.length_singleton]; omega) rfl (ev_ix1 (ev_d rfl (Is.mono e3 hvx))) fun H4 cw4 e4 => nx _ _ ⟨_, rfl⟩ ?_ (e3.trans e4)
      show Cw M H1 l (_ :: List.flatMap _ _) H4
      rw [flatMap_take hx]
      rw [List.append_assoc] at cw4
      exact cw4
    · rintro σ' H2 e2 ⟨z, rfl⟩ cw
      rw [List.take_length] at cw
      exact s_rk k (e1.trans (cw.same hl)) (ev_d (x := Fc05.told p) rfl (is_natInt (cw.is hM1 hl)))
theorem ok_is_closed {f : Addr} {fd : FuncData} (F : Fun K "is_closed" "is_closed" s_is_closed f fd) (T : Txt K mg CC CI CL WN) (g_arrows_from : MetOk P w K mg base CC 1 "arrows_from" ["self", "x"] (sp_arrows_from CC CI CL)) (g_what_make : MetOk P w K mg base CC 2 "what_make" ["self", "f", "g"] (sp_what_make CC CI CL)) : FnOk P w K mg base CX0 3 f fd ["category", "some"] (sp_is_closed CC CI CL) := by
  refine F.ok sc_is_closed (fun vs H Q E h => ?_) (fun cdv A outer s H vs Q E hr h => ⟨_, (pss_cons (ps_for PassesOwn.never rfl (pi_list (pv 1)) (pg_name (i := 2) sc_is_closed.nd rfl (Or.inl rfl)) (pss_one (ps_for PassesOwn.never rfl (pi_list (pe_methD (pv 0) T.cCC g_arrows_from (hr.mono (by decide)) (pa_cons (pe_ix ix_list (pe_fld (pv 0) rfl) (pv 2) (fun _ _ => rfl)) pa_nil))) (pg_name (i := 3) sc_is_closed.nd rfl (Or.inl rfl)) (pss_one (ps_if (pt_cmpR (op_notInD (hu65 hr)) (pe_methD (pv 0) T.cCC g_what_make (hr.mono (by decide)) (pa_cons (pv 2) (pa_cons (pv 3) pa_nil))) (pv 1) (by rfl)) (pss_one (ps_ret pe_bl)) pss_nil)))))
    (pss_one (ps_ret pe_bl))), ?_⟩)
  · obtain ⟨_, _, _, ⟨_, _, _, _, rfl, _⟩, _⟩ := h
    rfl
  · obtain ⟨M, P, hM, ⟨c, m, some', v, rfl, hc, ok, hcat, hv, hs, rfl⟩, k⟩ := h
    have hall0 := (Bool.and_eq_true_iff.mp hcat).1
    refine s_forPS (M := M) (src := some') (ev_d rfl hv) (fun j σ' => (∃ y z, σ' = [some (.ref c), some v, y, z]) ∧ (some'.take j).all (fun f => (arrowsFrom m (Fc05.to_ m f)).all fun g => match mkOf m f g with
      | none => false
      | .some h => decide (h ∈ some')) = true) ⟨⟨_, _, rfl⟩, rfl⟩ ?_ ?_
    · rintro j f vf σ' H1 N e1 hf ⟨⟨y, z, rfl⟩, hall⟩ hvf nx
      obtain rfl := Is.nat hvf
      have hfl := hs f (List.mem_of_getElem? hf)
      have hM1 := hM.mono e1
      have hc1 := hc.mono (hid_mono (M := M) e1)
      refine s_forP (M := M) (src := arrowsFrom m (Fc05.to_ m f)) (ev_arrows_from hM1 (ev_o rfl) hc1 ok.eight (ev_ixL (ev_ends T (ev_o rfl) hc1) (ev_n rfl) (arrows_at2 hfl))) (fun j σ' => (∃ z, σ' = [some (.ref c), some v, some (.int f), z]) ∧ ((arrowsFrom m (Fc05.to_ m f)).take j).all (fun g => match mkOf m f g with
        | none => false
        | .some h => decide (h ∈ some')) = true) ⟨⟨_, rfl⟩, rfl⟩ ?_ ?_
      · rintro j' g vg σ' H2 N' e2 hg ⟨⟨z, rfl⟩, hall2⟩ hvg nx'
        obtain rfl := Is.nat hvg
        have hg' := from_mem.mp (List.mem_of_getElem? hg)
        obtain ⟨a, ha⟩ := mk_told hall0 hfl hg'.1 hg'.2.symm
        refine s_if (et_test (ev_notInD (by decide) (ev_what_makeS (hM1.mono e2) (ev_o rfl) (hc1.mono (hid_mono e2)) ha (ev_n rfl) (ev_n rfl)) (ev_d rfl (Is.mono (hid_mono (e1.trans e2)) hv)))) (fun hb H3 e3 => ?_) fun hb H3 e3 => ?_
        · refine s_rk k ((e1.trans e2).trans e3) ((ev_c (P := .is false) is_bool).eq ?_)
          symm
          unfold closedB
          rw [List.all_eq_false]
          refine ⟨f, List.mem_of_getElem? hf, ?_⟩
          rw [Bool.not_eq_true, List.all_eq_false]
          refine ⟨g, List.mem_of_getElem? hg, ?_⟩
          simp only [ha]
          simpa using hb
        · refine nx' _ _ ⟨⟨_, rfl⟩, ?_⟩ e3
          rw [tk_more hg, List.all_append, hall2, List.all_cons]
          simp only [ha]
          simpa using hb
      · rintro σ' H2 e2 ⟨⟨z, rfl⟩, hall2⟩
        rw [List.take_length] at hall2
        refine nx _ _ ⟨⟨_, _, rfl⟩, ?_⟩ e2
        rw [tk_more hf, List.all_append, hall, List.all_cons, hall2]
        rfl
    · rintro σ' H1 e1 ⟨⟨y, z, rfl⟩, hall⟩
      rw [List.take_length] at hall
      exact s_rk k e1 ((ev_c (P := .is true) is_bool).eq hall.symm)
theorem ok_closed_sets {f : Addr} {fd : FuncData} (F : Fun K "closed_sets" "closed_sets" s_closed_sets f fd) (T : Txt K mg CC CI CL WN) (g_is_closed : DefOk P w K mg base 3 "is_closed" ["category", "some"] (sp_is_closed CC CI CL)) (g_all_choices : DefOk P w K mg base 1 "all_choices" ["members"] (sp_all_choices CC CI CL)) (g_arrows_from : MetOk P w K mg base CC 1 "arrows_from" ["self", "x"] (sp_arrows_from CC CI CL)) : FnOk P w K mg base CX0 4 f fd ["category", "x"] (sp_closed_sets CC CI CL) := by
  refine F.ok sc_closed_sets (fun vs H Q E h => ?_) (fun cdv A outer s H vs Q E hr h => ⟨_, (pss_one (ps_ret (pe_lc (own := [("some", 2)]) (g := gName 2) (tt := (tB (tCall (sp_is_closed CC CI CL) [] E0 (tCons (tVar 0) (tCons (tVar 2) tNil))))) (te := (tVar 2)) rfl sc_closed_sets.nd (pi_list (pe_callD g_all_choices (hr.mono (by decide)) rfl (pa_cons (pe_methD (pv 0) T.cCC g_arrows_from (hr.mono (by decide)) (pa_cons (pv 1) pa_nil)) pa_nil))) (blkOk_by (own := [("some", 2)]) (N := ["category", "x", "some"]) (sc := defScope s_closed_sets) (by decide +kernel)) (fun _ _ _ _ _ => pg_name (i := 2) sc_closed_sets.nd rfl (Or.inl rfl)) (fun _ _ _ _ _ => (pts_one (pt_val (pe_callD g_is_closed (hr.mono (by decide)) rfl (pa_cons (pv 0) (pa_cons (pv 2) pa_nil)))))) (fun _ _ _ _ _ => (pv 2))))), ?_⟩)
  · obtain ⟨_, _, _, ⟨_, _, _, rfl, _⟩, _⟩ := h
    rfl
  · obtain ⟨M, P, hM, ⟨c, m, x, rfl, hc, ok, hcat, rfl⟩, k⟩ := h
    refine s_rk k (Same.refl _) ((ev_lc (f := fun r => r) (keep := closedB m) hM (ev_all_choices hM (from_len ok x) (ev_arrows_from hM (ev_o rfl) hc ok.eight (ev_n rfl))) ?_ (fun _ => rfl)
      (fun s z M' H2 le hs hzs => et_B (ev_is_closed le.tr (ev_o rfl) (hc.mono le.same) ok hcat (fun f hf => (from_mem.mp (choices_sub _ s hs f hf)).1) (ev_d rfl hzs))) (fun x z M' H2 le hx _ hzx => ev_d rfl hzx)).eq ?_)
    · have := choices_len8 (l := arrowsFrom m x) (i := (arrowsFrom m x).length) (from_len ok x)
      rw [List.take_length] at this
      omega
    · rw [List.map_id']
      rfl
theorem ok_leads_to_none {f : Addr} {fd : FuncData} (F : Fun K "leads_to_none" "leads_to_none" s_leads_to_none f fd) (T : Txt K mg CC CI CL WN) (g_led_to : MetOk P w K mg base CI 2 "led_to" ["self", "row"] (sp_led_to CC CI CL)) : FnOk P w K mg base CX0 3 f fd ["target", "row", "missed"] (sp_leads_to_none CC CI CL) := by
  refine F.ok sc_leads_to_none (fun vs H Q E h => ?_) (fun cdv A outer s H vs Q E hr h => ⟨_, (pss_cons (ps_for PassesOwn.never rfl (pi_list (pe_methD (pv 0) T.cCI g_led_to (hr.mono (by decide)) (pa_cons (pv 1) pa_nil))) (pg_name (i := 3) sc_leads_to_none.nd rfl (Or.inl rfl)) (pss_one (ps_if (pt_cmpR (op_inD (hu65 hr)) (pv 3) (pv 2) (by rfl)) (pss_one (ps_ret pe_bl)) pss_nil)))
    (pss_one (ps_ret pe_bl))), ?_⟩)
  · obtain ⟨_, _, _, ⟨_, _, _, _, _, _, _, _, rfl, _⟩, _⟩ := h
    rfl
  · obtain ⟨M, P, hM, ⟨i, m, t, x, r, p, z, v, rfl, ⟨c, hi, ok, io⟩, hz, hr, hv, rfl⟩, k⟩ := h
    refine s_forPS (M := M) (src := ledTo m t (x, r)) (ev_led_to hM (ev_o rfl) hi ok io hr (ev_d rfl hz)) (fun j σ' => (∃ y, σ' = [some (.ref i), some z, some v, y]) ∧ ((ledTo m t (x, r)).take j).all (fun s => !decide (s ∈ p)) = true) ⟨⟨_, rfl⟩, rfl⟩ ?_ ?_
    · rintro j s vs' σ' H1 N e1 hs ⟨⟨y, rfl⟩, hall⟩ hvs nx
      refine s_if (et_test (ev_inD (by decide) (ev_d rfl hvs) (ev_d rfl (Is.mono (hid_mono e1) hv)))) (fun hb H2 e2 => ?_) fun hb H2 e2 => ?_
      · refine s_rk k (e1.trans e2) ((ev_c (P := .is false) is_bool).eq ?_)
        symm
        unfold noneL
        rw [List.all_eq_false]
        exact ⟨s, List.mem_of_getElem? hs, by rw [hb]; exact Bool.false_ne_true⟩
      · refine nx _ _ ⟨⟨_, rfl⟩, ?_⟩ e2
        rw [tk_more hs, List.all_append, hall, List.all_cons, hb]
        rfl
    · rintro σ' H1 e1 ⟨⟨y, rfl⟩, hall⟩
      rw [List.take_length] at hall
      exact s_rk k e1 ((ev_c (P := .is true) is_bool).eq hall.symm)
theorem ok_moves_of_map {f : Addr} {fd : FuncData} (F : Fun K "moves_of_map" "moves_of_map" s_moves_of_map f fd) (T : Txt K mg CC CI CL WN) (g_all_rows : MetOk P w K mg base CI 1 "all_rows" ["self"] (sp_all_rows CC CI CL)) : FnOk P w K mg base CX0 2 f fd ["source", "numbers"] (sp_moves_of_map CC CI CL) := by
  refine F.ok sc_moves_of_map (fun vs H Q E h => ?_) (fun cdv A outer s H vs Q E hr h => ⟨_, (pss_cons (ps_set (i := 2) sc_moves_of_map.nd rfl (Or.inl rfl) (pe_lst pa_nil))
    (pss_cons (ps_for PassesOwn.never rfl (pi_enum (by rfl) T.f_enumerate (pa_cons (pe_methD0 (pv 0) T.cCI g_all_rows (hr.mono (by decide))) pa_nil)) (pg_tup rfl (pgs_cons (pg_name (i := 3) sc_moves_of_map.nd rfl (Or.inl rfl)) (pgs_cons (pg_name (i := 4) sc_moves_of_map.nd rfl (Or.inl rfl)) pgs_nil))) (pss_one (ps_expr (pe_bm PySem.F.plainAttrs_list PySem.F.slot_list_append PySem.F.type_list_append mt_append (pv 2) (pa_cons (pe_tup (pa_cons (pv 4) (pa_cons (pe_tup (pa_cons (pe_ix ix_tup (pv 4) pe_int (fun _ _ => rfl)) (pa_cons (pe_ix ix_list (pv 1) (pv 3) (fun _ _ => rfl)) pa_nil))) pa_nil))) pa_nil)))))
    (pss_one (ps_ret (pv 2))))), ?_⟩)
  · obtain ⟨_, _, _, ⟨_, _, _, _, _, rfl, _⟩, _⟩ := h
    rfl
  · obtain ⟨M, P, hM, ⟨i, m, t, mp, v, rfl, ⟨c, hi, ok, io⟩, hv, hl', rfl⟩, k⟩ := h
    have pl := places_len ok io
    refine s_newS fun l hl => ?_
    have c0 : Cw M H l ([] : List Mv) (upd H l (.lst [])) := Cw.start
    have le0 := c0.le hM hl
    refine s_forECS (acc := fun j => ((Fc05.places m t).zipIdx.take j).map fun x => (x.1, (x.1.1, mp.getD x.2 0))) c0 (ea_cons (ev_all_rows le0.tr (ev_o rfl) (hi.mono le0.same) ok io) ea_nil) rfl (fun _ σ' => ∃ y z, σ' = [some (.ref i), some v, some (.ref l), y, z]) ⟨_, _, rfl⟩ ?_ ?_
    · rintro j ⟨x, r⟩ vx σ' H1 N e1 hx ⟨y, z, rfl⟩ cw hvx nx
      have le := cw.le hM hl
      have hj : j < mp.length := by rw [hl']; exact (List.getElem?_eq_some_iff.mp hx).1
      have hmp : mp[j]? = some (mp.getD j 0) := by rw [List.getD_eq_getElem?_getD, List.getElem?_eq_getElem hj]; rfl
      have hzx : ((Fc05.places m t).zipIdx)[j]? = some ((x, r), j) := by rw [List.getElem?_zipIdx, hx]; simp
      refine s_appC cw ?_ rfl (ev_tup (tr := tNil) le.tr (ev_d rfl hvx) (ev_tup (tr := tNil) le.tr (ev_ix0 (ev_d rfl hvx)) (ev_ixL (ev_d rfl (Is.mono le.same hv)) (ev_n rfl) hmp))) fun H2 cw2 e2 => nx _ _ ⟨_, _, rfl⟩ ?_ e2
      · rw [List.length_map, List.length_take, List.length_zipIdx]
        omega
      · show Cw M H l (List.map _ _) H2
        rw [tk_more hzx, List.map_append]
        exact cw2
    · rintro σ' H1 e1 ⟨y, z, rfl⟩ cw
      have e3 : (Fc05.places m t).zipIdx.take (Fc05.places m t).length = (Fc05.places m t).zipIdx := List.take_of_length_le (by rw [List.length_zipIdx]; omega)
      simp only [e3] at cw
      exact s_rk k (cw.same hl) (ev_d rfl (cw.is hM hl))
theorem ok_back_part {f : Addr} {fd : FuncData} (F : Fun K "back_part" "back_part" s_back_part f fd) (T : Txt K mg CC CI CL WN) : FnOk P w K mg base CX0 1 f fd ["moves", "p"] (sp_back_part CC CI CL) := by
  refine F.ok sc_back_part (fun vs H Q E h => ?_) (fun cdv A outer s H vs Q E hr h => ⟨_, (pss_one (ps_ret (pe_lc (own := [("move", 2)]) (g := gName 2) (tt := (tTest (tOp (rInD K) (tOp (rIxT K) (tVar 2) (tC (.int 1))) (tVar 1)))) (te := (tOp (rIxT K) (tVar 2) (tC (.int 0)))) rfl sc_back_part.nd (pi_list (pv 0)) (blkOk_by (own := [("move", 2)]) (N := ["moves", "p", "move"]) (sc := defScope s_back_part) (by decide +kernel)) (fun _ _ _ _ _ => pg_name (i := 2) sc_back_part.nd rfl (Or.inl rfl)) (fun _ _ _ _ _ => (pts_one (pt_cmpR (op_inD (hu65 hr)) (pe_ix ix_tup (pv 2) pe_int (fun _ _ => rfl)) (pv 1) (by rfl)))) (fun _ _ _ _ _ => (pe_ix ix_tup (pv 2) pe_int (fun _ _ => rfl)))))), ?_⟩)
  · obtain ⟨_, _, _, ⟨_, _, _, _, rfl, _⟩, _⟩ := h
    rfl
  · obtain ⟨M, P, hM, ⟨mv, p, v, u, rfl, hv, hz, hu, rfl⟩, k⟩ := h
    exact s_rk k (Same.refl _) (ev_lc (f := fun x : Mv => x.1) (keep := fun x => decide (x.2 ∈ p)) hM (ev_d rfl hv) (by omega) (fun _ => rfl) (fun x z M' H2 le hx hzx => et_test (ev_inD (by decide) (ev_ix1 (ev_d rfl hzx)) (ev_d rfl (Is.mono le.same hu)))) (fun x z M' H2 le hx _ hzx => ev_ix0 (y := x.2) (ev_d rfl hzx)))
theorem ok_forward_part {f : Addr} {fd : FuncData} (F : Fun K "forward_part" "forward_part" s_forward_part f fd) (T : Txt K mg CC CI CL WN) (g_all_rows : MetOk P w K mg base CI 1 "all_rows" ["self"] (sp_all_rows CC CI CL)) : FnOk P w K mg base CX0 2 f fd ["target", "moves", "p"] (sp_forward_part CC CI CL) := by
  refine F.ok sc_forward_part (fun vs H Q E h => ?_) (fun cdv A outer s H vs Q E hr h => ⟨_, (pss_cons (ps_set (i := 3) sc_forward_part.nd rfl (Or.inr rfl) (pe_lc (own := [("move", 4)]) (g := gName 4) (tt := (tTest (tOp (rInD K) (tOp (rIxT K) (tVar 4) (tC (.int 0))) (tVar 2)))) (te := (tOp (rIxT K) (tVar 4) (tC (.int 1)))) rfl sc_forward_part.nd (pi_list (pv 1)) (blkOk_by (own := [("move", 4)]) (N := ["target", "moves", "p", "reached", "move", "row"]) (sc := defScope s_forward_part) (by decide +kernel)) (fun _ _ _ _ _ => pg_name (i := 4) sc_forward_part.nd rfl (Or.inl rfl)) (fun _ _ _ _ _ => (pts_one (pt_cmpR (op_inD (hu65 hr)) (pe_ix ix_tup (pv 4) pe_int (fun _ _ => rfl)) (pv 2) (by rfl)))) (fun _ _ _ _ _ => (pe_ix ix_tup (pv 4) pe_int (fun _ _ => rfl)))))
    (pss_one (ps_ret (pe_lc (own := [("row", 5)]) (g := gName 5) (tt := (tTest (tOp (rInD K) (tVar 5) (tVar 3)))) (te := (tVar 5)) rfl sc_forward_part.nd (pi_list (pe_methD0 (pv 0) T.cCI g_all_rows (hr.mono (by decide)))) (blkOk_by (own := [("row", 5)]) (N := ["target", "moves", "p", "reached", "move", "row"]) (sc := defScope s_forward_part) (by decide +kernel)) (fun _ _ _ _ _ => pg_name (i := 5) sc_forward_part.nd rfl (Or.inl rfl)) (fun _ _ _ _ _ => (pts_one (pt_cmpR (op_inD (hu65 hr)) (pv 5) (pv 3) (by rfl)))) (fun _ _ _ _ _ => (pv 5)))))), ?_⟩)
  · obtain ⟨_, _, _, ⟨_, _, _, _, _, _, _, rfl, _⟩, _⟩ := h
    rfl
  · obtain ⟨M, P, hM, ⟨i, m, t, mv, p, v, u, rfl, ⟨c, hi, ok, io⟩, hv, hz, hu, rfl⟩, k⟩ := h
    refine s_asgS (M := M) (ev_lc (f := fun x : Mv => x.2) (keep := fun x => decide (x.1 ∈ p)) hM (ev_d rfl hv) (by omega) (fun _ => rfl) (fun x z M' H2 le hx hzx => et_test (ev_inD (by decide) (ev_ix0 (y := x.2) (ev_d rfl hzx)) (ev_d rfl (Is.mono le.same hu)))) (fun x z M' H2 le hx _ hzx => ev_ix1 (x := x.1) (ev_d rfl hzx))) fun vr H1 e1 hr => ?_
    have hM1 := hM.mono e1
    refine s_rk k e1 ((ev_lc (f := fun r => r) (keep := fun r => decide (r ∈ (mv.filter fun x : Mv => decide (x.1 ∈ p)).map fun x : Mv => x.2)) hM1 (ev_all_rows hM1 (ev_o rfl) (hi.mono (hid_mono e1)) ok io) (by have := places_len ok io; omega) (fun _ => rfl)
      (fun x z M' H2 le hx hzx => et_test (ev_inD (by decide) (ev_d rfl hzx) (ev_d rfl (Is.mono le.same hr)))) (fun x z M' H2 le hx _ hzx => ev_d rfl hzx)).eq ?_)
    rw [List.map_id']
    rfl
theorem ok_for_all_part {f : Addr} {fd : FuncData} (F : Fun K "for_all_part" "for_all_part" s_for_all_part f fd) (T : Txt K mg CC CI CL WN) (g_leads_to_none : DefOk P w K mg base 3 "leads_to_none" ["target", "row", "missed"] (sp_leads_to_none CC CI CL)) (g_all_rows : MetOk P w K mg base CI 1 "all_rows" ["self"] (sp_all_rows CC CI CL)) : FnOk P w K mg base CX0 4 f fd ["target", "moves", "p"] (sp_for_all_part CC CI CL) := by
  refine F.ok sc_for_all_part (fun vs H Q E h => ?_) (fun cdv A outer s H vs Q E hr h => ⟨_, (pss_cons (ps_set (i := 3) sc_for_all_part.nd rfl (Or.inr rfl) (pe_lc (own := [("move", 4)]) (g := gName 4) (tt := (tTest (tOp (rNotInD K) (tOp (rIxT K) (tVar 4) (tC (.int 0))) (tVar 2)))) (te := (tOp (rIxT K) (tVar 4) (tC (.int 1)))) rfl sc_for_all_part.nd (pi_list (pv 1)) (blkOk_by (own := [("move", 4)]) (N := ["target", "moves", "p", "missed", "move", "row"]) (sc := defScope s_for_all_part) (by decide +kernel)) (fun _ _ _ _ _ => pg_name (i := 4) sc_for_all_part.nd rfl (Or.inl rfl)) (fun _ _ _ _ _ => (pts_one (pt_cmpR (op_notInD (hu65 hr)) (pe_ix ix_tup (pv 4) pe_int (fun _ _ => rfl)) (pv 2) (by rfl)))) (fun _ _ _ _ _ => (pe_ix ix_tup (pv 4) pe_int (fun _ _ => rfl)))))
    (pss_one (ps_ret (pe_lc (own := [("row", 5)]) (g := gName 5) (tt := (tB (tCall (sp_leads_to_none CC CI CL) [] E0 (tCons (tVar 0) (tCons (tVar 5) (tCons (tVar 3) tNil)))))) (te := (tVar 5)) rfl sc_for_all_part.nd (pi_list (pe_methD0 (pv 0) T.cCI g_all_rows (hr.mono (by decide)))) (blkOk_by (own := [("row", 5)]) (N := ["target", "moves", "p", "missed", "move", "row"]) (sc := defScope s_for_all_part) (by decide +kernel)) (fun _ _ _ _ _ => pg_name (i := 5) sc_for_all_part.nd rfl (Or.inl rfl)) (fun _ _ _ _ _ => (pts_one (pt_val (pe_callD g_leads_to_none (hr.mono (by decide)) rfl (pa_cons (pv 0) (pa_cons (pv 5) (pa_cons (pv 3) pa_nil))))))) (fun _ _ _ _ _ => (pv 5)))))), ?_⟩)
  · obtain ⟨_, _, _, ⟨_, _, _, _, _, _, _, rfl, _⟩, _⟩ := h
    rfl
  · obtain ⟨M, P, hM, ⟨i, m, t, mv, p, v, u, rfl, ⟨c, hi, ok, io⟩, hv, hz, hu, rfl⟩, k⟩ := h
    refine s_asgS (M := M) (ev_lc (f := fun x : Mv => x.2) (keep := fun x => !decide (x.1 ∈ p)) hM (ev_d rfl hv) (by omega) (fun _ => rfl) (fun x z M' H2 le hx hzx => et_test (ev_notInD (by decide) (ev_ix0 (y := x.2) (ev_d rfl hzx)) (ev_d rfl (Is.mono le.same hu)))) (fun x z M' H2 le hx _ hzx => ev_ix1 (x := x.1) (ev_d rfl hzx))) fun vr H1 e1 hr => ?_
    have hM1 := hM.mono e1
    refine s_rk k e1 ((ev_lc (f := fun r => r) (keep := noneL m t ((mv.filter fun x : Mv => !decide (x.1 ∈ p)).map fun x : Mv => x.2)) hM1 (ev_all_rows hM1 (ev_o rfl) (hi.mono (hid_mono e1)) ok io) (by have := places_len ok io; omega) (fun _ => rfl)
      (fun x z M' H2 le hx hzx => et_B (ev_leads_to_none le.tr (ev_o rfl) ⟨c, (hi.mono (hid_mono e1)).mono le.same, ok, io⟩ (places_mem.mp hx).2 (ev_d rfl hzx) (ev_d rfl (Is.mono le.same hr)))) (fun x z M' H2 le hx _ hzx => ev_d rfl hzx)).eq ?_)
    rw [List.map_id']
    rfl
end
end Im

namespace Im
open PySem PySem.Spec PyProof.Rows L2
theorem g_t3 {K : PySem.W.Frag} {G H : Hp} {v : V} {x : T3} {a b c : Nat} {σ : L2.St} {R : L2.St → Hp → Prop} (e : Same G H) (h : Is G v x) (k : R (((σ.set a (some (.int (x.a : Nat)))).set b (some (.int (x.f : Nat)))).set c (some (.int (x.b : Nat)))) H) : gTup K 3 (gCons (gName a) (gCons (gName b) (gCons (gName c) gNil))) v σ H R := by
  obtain ⟨t, rfl, h1⟩ := Is.t3 h
  exact ⟨t, _, rfl, SqT.of (e _ _ h1), rfl, _, _, rfl, _, _, rfl, _, _, rfl, rfl, k⟩
def ixOf {α : Type} [DecidableEq α] (l : List α) (x : α) : Nat := l.findIdx fun y => decide (y = x)
theorem ixOf_lt {α : Type} [DecidableEq α] {l : List α} {x : α} (h : x ∈ l) : ixOf l x < l.length := List.findIdx_lt_length_of_exists ⟨x, h, decide_eq_true rfl⟩
theorem ixOf_at {α : Type} [DecidableEq α] {l : List α} {x : α} (h : x ∈ l) : l[ixOf l x]? = some x := by
  have h1 := ixOf_lt h
  rw [List.getElem?_eq_getElem h1]
  have := List.findIdx_getElem (p := fun y => decide (y = x)) (xs := l) (w := h1)
  exact congrArg some (of_decide_eq_true this)
theorem ixOf_no {α : Type} [DecidableEq α] {l : List α} {x z : α} {j : Nat} (h : j < ixOf l x) (hz : l[j]? = some z) : z ≠ x := by
  have h1 := List.not_of_lt_findIdx (p := fun y => decide (y = x)) (xs := l) h
  obtain ⟨h2, h3⟩ := List.getElem?_eq_some_iff.mp hz
  intro e
  apply Bool.false_ne_true
  rw [← h1, h3]
  exact decide_eq_true e
section
variable {α : Type} [Enc α] [DecidableEq α] {K : PySem.W.Frag} {M : Addr → Prop} {σ : L2.St} {H : Hp} {ta tb te : TE} {l : List α} {x : α}
theorem ev_index (hd : Enc.dep α < 64) (hx : x ∈ l) (ha : Ev M ta σ H (.is l)) (he : Ev M te σ H (.is x)) : Ev M (tBM K "list" (rIndexD K) ta (tCons te tNil)) σ H (.is (ixOf l x)) :=
  fun H1 e Q q => ha H1 e _ fun w H2 e2 hw => by
    obtain ⟨a, vs, rfl, h1, h2⟩ := Is.list hw
    refine ⟨.inl ⟨rfl, vs, SqL.of (hid_sub _ _ h1)⟩, ?_⟩
    refine he H2 (e.trans e2) _ fun u H3 e3 hu => ?_
    have hw3 : Is (hid M H3) (.ref a) l := Is.mono (hid_mono e3) hw
    refine ⟨a, u, Enc.enc x, l.map Enc.enc, ixOf l x, Enc.enc x, rfl, rfl, (hw3.mono hid_sub).dp, (Is.mono hid_sub hu).dp, shaped_enc l (by show Enc.dep α + 1 ≤ 64; omega), shaped_enc _ (by omega), ?_, (Enc.inj x x).mpr rfl, fun j z hj hz => ?_, q _ H3 (e2.trans e3) is_nat⟩
    · rw [List.getElem?_map, ixOf_at hx]
      rfl
    · rw [List.getElem?_map] at hz
      obtain ⟨y, hy, rfl⟩ := Option.map_eq_some_iff.mp hz
      rw [eqv_enc, decide_eq_false (ixOf_no hj hy)]
theorem ev_max2 {i j : Nat} (ha : Ev M ta σ H (.is i)) (hb : Ev M tb σ H (.is j)) : Ev M (tCB (fun xs H Q => ∃ i j, xs = [.int i, .int j] ∧ Q (.int (if j > i then j else i)) H) (tCons ta (tCons tb tNil))) σ H (.is (max i j)) :=
  fun H1 e Q q => ha H1 e _ fun w H2 e2 hw => hb H2 (e.trans e2) _ fun z H3 e3 hz => by
    obtain rfl := Is.nat hw
    obtain rfl := Is.nat hz
    refine ⟨_, _, rfl, ?_⟩
    have e4 : (if (j : Int) > (i : Int) then (j : Int) else (i : Int)) = ((max i j : Nat) : Int) := by split <;> omega
    rw [e4]
    exact q _ H3 (e2.trans e3) is_nat
end
def keepsB (m : Fc05.Cat) (t : Fc05.Inst) (taken : List Nat) (ties : List T3) : Bool := ties.all fun x => decide (Fc05.go m t x.f (taken.getD x.a 0) = taken.getD x.b 0)
def longerL (m : Fc05.Cat) (t : Fc05.Inst) (found : List (List Nat)) (size : Nat) (ties : List T3) : List (List Nat) := found.flatMap fun taken => ((List.range size).filter fun v => keepsB m t (taken ++ [v]) ties).map fun v => taken ++ [v]
def pl (m : Fc05.Cat) (s : Fc05.Inst) (a : Nat) : Nat × Nat := (Fc05.places m s).getD a (0, 0)
def ledIx (m : Fc05.Cat) (s : Fc05.Inst) (a f : Nat) : Nat := ixOf (Fc05.places m s) (Fc05.to_ m f, Fc05.go m s f (pl m s a).2)
def tiesA (m : Fc05.Cat) (s : Fc05.Inst) (k a : Nat) : List T3 := ((arrowsFrom m (pl m s a).1).filter fun f => decide (max a (ledIx m s a f) = k)).map fun f => ⟨a, f, ledIx m s a f⟩
def tiesL (m : Fc05.Cat) (s : Fc05.Inst) (k : Nat) : List T3 := (List.range (k + 1)).flatMap (tiesA m s k)
def mapsTo (m : Fc05.Cat) (s t : Fc05.Inst) : Nat → List (List Nat)
  | 0 => [[]]
  | k + 1 => longerL m t (mapsTo m s t k) (Fc05.rows t (pl m s k).1) (tiesL m s k)
def mapsL (m : Fc05.Cat) (s t : Fc05.Inst) : List (List Nat) := mapsTo m s t (Fc05.places m s).length
def TieOk (m : Fc05.Cat) (t : Fc05.Inst) (taken : List Nat) (x : T3) : Prop := x.f < m.arrows.length ∧ x.a < taken.length ∧ x.b < taken.length ∧ taken.getD x.a 0 < (lead m t x.f).length
def sp_keeps_ties (CC CI CL : Addr) : Sp := SpP fun vs G P => ∃ (i : Addr) (m : Fc05.Cat) (t : Fc05.Inst) (taken : List Nat) (ties : List T3) (v u : V), vs = [.ref i, v, u] ∧ InAt CC CI G i m t ∧ Is G v taken ∧ Is G u ties ∧ (∀ x ∈ ties, TieOk m t taken x) ∧ P = .is (keepsB m t taken ties)
def sp_longer_maps (CC CI CL : Addr) : Sp := SpP fun vs G P => ∃ (i : Addr) (m : Fc05.Cat) (t : Fc05.Inst) (found : List (List Nat)) (size : Nat) (ties : List T3) (v u : V), vs = [v, .ref i, .int size, u] ∧ InAt CC CI G i m t ∧ Is G v found ∧ Is G u ties ∧ found.length ≤ 50000 ∧ size ≤ 6 ∧ (∀ taken ∈ found, taken.length ≤ 100 ∧ ∀ y, y < size → ∀ x ∈ ties, TieOk m t (taken ++ [y]) x) ∧ P = .is (longerL m t found size ties)
def sp_ties_closed_by (CC CI CL : Addr) : Sp := SpP fun vs G P => ∃ (i : Addr) (m : Fc05.Cat) (s : Fc05.Inst) (k : Nat) (v : V), vs = [.ref i, v, .int k] ∧ InAt CC CI G i m s ∧ Is G v (Fc05.places m s) ∧ k < (Fc05.places m s).length ∧ gapO m s = none ∧ P = .is (tiesL m s k)
def sp_maps_between (CC CI CL : Addr) : Sp := SpP fun vs G P => ∃ (i j : Addr) (m : Fc05.Cat) (s t : Fc05.Inst), vs = [.ref i, .ref j] ∧ InAt CC CI G i m s ∧ InAt CC CI G j m t ∧ gapO m s = none ∧ P = .is (mapsL m s t)
section
variable {m : Fc05.Cat} {s t : Fc05.Inst}
theorem pl_at {a : Nat} (h : a < (Fc05.places m s).length) : (Fc05.places m s)[a]? = some (pl m s a) := by
  unfold pl
  rw [List.getD_eq_getElem?_getD, List.getElem?_eq_getElem h]
  rfl
theorem pl_mem {a : Nat} (h : a < (Fc05.places m s).length) : (pl m s a).1 < m.n ∧ (pl m s a).2 < Fc05.rows s (pl m s a).1 := places_mem.mp (List.mem_of_getElem? (pl_at h))
/-- where a row leads, there is a row -/
theorem led_mem (ok : CatOk m) (hg : gapO m s = none) {x r f : Nat} (hx : x < m.n) (hr : r < Fc05.rows s x) (hf : f ∈ arrowsFrom m x) : (Fc05.to_ m f, Fc05.go m s f r) ∈ Fc05.places m s := by
  obtain ⟨h1, h2⟩ := from_mem.mp hf
  refine places_mem.mpr ⟨(from_lt ok h1).2, ?_⟩
  by_cases q : f < m.n
  · obtain ⟨q1, q2⟩ := own_from ok q
    unfold Fc05.go
    rw [if_pos q, q2, ← q1, h2]
    exact hr
  · exact gap_none hg (told_mem.mpr ⟨by omega, h1⟩) (by rw [h2]; exact hr)
theorem ledIx_lt (ok : CatOk m) (hg : gapO m s = none) {a f : Nat} (ha : a < (Fc05.places m s).length) (hf : f ∈ arrowsFrom m (pl m s a).1) : ledIx m s a f < (Fc05.places m s).length ∧ (Fc05.places m s)[ledIx m s a f]? = some (Fc05.to_ m f, Fc05.go m s f (pl m s a).2) := by
  have h := led_mem ok hg (pl_mem ha).1 (pl_mem ha).2 hf
  exact ⟨ixOf_lt h, ixOf_at h⟩
theorem tiesL_mem {k : Nat} {x : T3} (h : x ∈ tiesL m s k) : x.a ≤ k ∧ x.f ∈ arrowsFrom m (pl m s x.a).1 ∧ x.b = ledIx m s x.a x.f ∧ max x.a x.b = k := by
  unfold tiesL at h
  obtain ⟨a, h1, h2⟩ := List.mem_flatMap.mp h
  unfold tiesA at h2
  obtain ⟨f, h3, rfl⟩ := List.mem_map.mp h2
  obtain ⟨h4, h5⟩ := List.mem_filter.mp h3
  have := List.mem_range.mp h1
  exact ⟨by show a ≤ k; omega, h4, rfl, of_decide_eq_true h5⟩
theorem longerL_mem {found : List (List Nat)} {size : Nat} {ties : List T3} {l : List Nat} (h : l ∈ longerL m t found size ties) : ∃ taken ∈ found, ∃ v, v < size ∧ l = taken ++ [v] := by
  unfold longerL at h
  obtain ⟨taken, h1, h2⟩ := List.mem_flatMap.mp h
  obtain ⟨v, h3, rfl⟩ := List.mem_map.mp h2
  exact ⟨taken, h1, v, List.mem_range.mp (List.mem_filter.mp h3).1, rfl⟩
theorem mapsTo_mem : ∀ (k : Nat) (l : List Nat), l ∈ mapsTo m s t k → l.length = k ∧ ∀ a, a < k → l.getD a 0 < Fc05.rows t (pl m s a).1
  | 0, l, h => by
    obtain rfl := List.mem_singleton.mp h
    exact ⟨rfl, fun a ha => by omega⟩
  | k + 1, l, h => by
    obtain ⟨taken, h1, v, h2, rfl⟩ := longerL_mem h
    obtain ⟨h3, h4⟩ := mapsTo_mem k taken h1
    refine ⟨by rw [List.length_append, h3]; rfl, fun a ha => ?_⟩
    rw [List.getD_eq_getElem?_getD]
    by_cases q : a < k
    · rw [List.getElem?_append_left (by omega), ← List.getD_eq_getElem?_getD]
      exact h4 a q
    · have e : a = k := by omega
      subst e
      rw [List.getElem?_append_right (by omega), h3, Nat.sub_self]
      exact h2
theorem mapsTo_len (io : InstOk m t) : ∀ k : Nat, (mapsTo m s t k).length ≤ 6 ^ k
  | 0 => Nat.le_refl _
  | k + 1 => by
    have ih := mapsTo_len io k
    have := flatMap_len (mapsTo m s t k) (fun taken => ((List.range (Fc05.rows t (pl m s k).1)).filter fun v => keepsB m t (taken ++ [v]) (tiesL m s k)).map fun v => taken ++ [v]) 6 fun x _ => by
      rw [List.length_map]
      have h1 := List.length_filter_le (fun v => keepsB m t (x ++ [v]) (tiesL m s k)) (List.range (Fc05.rows t (pl m s k).1))
      rw [List.length_range] at h1
      have := rows_le io (pl m s k).1
      omega
    have h2 : (mapsTo m s t (k + 1)).length ≤ (mapsTo m s t k).length * 6 := this
    rw [Nat.pow_succ]
    omega
theorem tie_ok (ok : CatOk m) (ios : InstOk m s) (io : InstOk m t) {k v : Nat} {taken : List Nat} (h : taken ∈ mapsTo m s t k) (hv : v < Fc05.rows t (pl m s k).1) {x : T3} (hx : x ∈ tiesL m s k) : TieOk m t (taken ++ [v]) x := by
  obtain ⟨h1, h2, h3, h4⟩ := tiesL_mem hx
  obtain ⟨h5, h6⟩ := mapsTo_mem k taken h
  obtain ⟨h7, h8⟩ := from_mem.mp h2
  have hl : (taken ++ [v]).length = k + 1 := by rw [List.length_append, h5]; rfl
  refine ⟨h7, by omega, by omega, ?_⟩
  rw [lead_len ok io h7, h8, List.getD_eq_getElem?_getD]
  by_cases q : x.a < k
  · rw [List.getElem?_append_left (by omega), ← List.getD_eq_getElem?_getD]
    exact h6 _ q
  · have e : x.a = k := by omega
    rw [List.getElem?_append_right (by omega), h5, e, Nat.sub_self]
    exact hv
end
section
variable {K : PySem.W.Frag} {mg : Str → Option Value} {CC CI CL WN c i j : Addr} {m : Fc05.Cat} {t s : Fc05.Inst} {M : Addr → Prop} {σ : L2.St} {H : Hp} {ta tx ty tz : TE} {k size : Nat} {taken : List Nat} {found : List (List Nat)} {ties : List T3}
theorem ev_keeps_ties (hM : Tr M H) (ho : Ev M ta σ H (.val (.ref i))) (hi : InAt CC CI (hid M H) i m t) (hx : ∀ x ∈ ties, TieOk m t taken x) (h1 : Ev M tx σ H (.is taken)) (h2 : Ev M ty σ H (.is ties)) : Ev M (tCall (sp_keeps_ties CC CI CL) [] E0 (tCons ta (tCons tx (tCons ty tNil)))) σ H (.is (keepsB m t taken ties)) :=
  ev_call hM (ea_cons ho (ea_cons h1 (ea_cons h2 ea_nil))) fun vs H1 e hv => by
    obtain ⟨u, w, z, rfl, q1, q2, q3⟩ := hv.three
    obtain rfl : u = .ref i := q1
    exact ⟨i, m, t, taken, ties, w, z, rfl, hi.mono (hid_mono e), q2, q3, hx, rfl⟩
theorem ev_longer_maps (hM : Tr M H) (ho : Ev M ta σ H (.val (.ref i))) (hi : InAt CC CI (hid M H) i m t) (hf : found.length ≤ 50000) (hs : size ≤ 6) (hx : ∀ taken ∈ found, taken.length ≤ 100 ∧ ∀ y, y < size → ∀ x ∈ ties, TieOk m t (taken ++ [y]) x) (h1 : Ev M tx σ H (.is found)) (h2 : Ev M ty σ H (.is size)) (h3 : Ev M tz σ H (.is ties)) :
    Ev M (tCall (sp_longer_maps CC CI CL) [] E0 (tCons tx (tCons ta (tCons ty (tCons tz tNil))))) σ H (.is (longerL m t found size ties)) :=
  ev_call hM (ea_cons h1 (ea_cons ho (ea_cons h2 (ea_cons h3 ea_nil)))) fun vs H1 e hv => by
    obtain ⟨u, w, z, y, rfl, q1, q2, q3, q4⟩ := hv.four
    obtain rfl : w = .ref i := q2
    obtain rfl := Is.nat q3
    exact ⟨i, m, t, found, size, ties, u, y, rfl, hi.mono (hid_mono e), q1, q4, hf, hs, hx, rfl⟩
theorem ev_ties_closed_by (hM : Tr M H) (ho : Ev M ta σ H (.val (.ref i))) (hi : InAt CC CI (hid M H) i m s) (hk : k < (Fc05.places m s).length) (hg : gapO m s = none) (h1 : Ev M tx σ H (.is (Fc05.places m s))) (h2 : Ev M ty σ H (.is k)) : Ev M (tCall (sp_ties_closed_by CC CI CL) [] E0 (tCons ta (tCons tx (tCons ty tNil)))) σ H (.is (tiesL m s k)) :=
  ev_call hM (ea_cons ho (ea_cons h1 (ea_cons h2 ea_nil))) fun vs H1 e hv => by
    obtain ⟨u, w, z, rfl, q1, q2, q3⟩ := hv.three
    obtain rfl : u = .ref i := q1
    obtain rfl := Is.nat q3
    exact ⟨i, m, s, k, w, rfl, hi.mono (hid_mono e), q2, hk, hg, rfl⟩
theorem ev_maps_between (hM : Tr M H) (ho : Ev M ta σ H (.val (.ref i))) (ho' : Ev M tx σ H (.val (.ref j))) (hi : InAt CC CI (hid M H) i m s) (hj : InAt CC CI (hid M H) j m t) (hg : gapO m s = none) : Ev M (tCall (sp_maps_between CC CI CL) [] E0 (tCons ta (tCons tx tNil))) σ H (.is (mapsL m s t)) :=
  ev_call hM (ea_cons ho (ea_cons ho' ea_nil)) fun vs H1 e hv => by
    obtain ⟨u, w, rfl, q1, q2⟩ := hv.two
    obtain rfl : u = .ref i := q1
    obtain rfl : w = .ref j := q2
    exact ⟨i, j, m, s, t, rfl, hi.mono (hid_mono e), hj.mono (hid_mono e), hg, rfl⟩
end
section
variable {P : Program} {w : World} {K : PySem.W.Frag} {mg : Str → Option Value} {base : Heap} {CC CI CL WN : Addr}
theorem getD_at {l : List Nat} {a : Nat} (h : a < l.length) : l[a]? = some (l.getD a 0) := by
  rw [List.getD_eq_getElem?_getD, List.getElem?_eq_getElem h]
  rfl
theorem ok_keeps_ties {f : Addr} {fd : FuncData} (F : Fun K "keeps_ties" "keeps_ties" s_keeps_ties f fd) (T : Txt K mg CC CI CL WN) : FnOk P w K mg base CX0 1 f fd ["target", "taken", "ties"] (sp_keeps_ties CC CI CL) := by
  refine F.ok sc_keeps_ties (fun vs H Q E h => ?_) (fun cdv A outer s H vs Q E hr h => ⟨_, (pss_cons (ps_for PassesOwn.never rfl (pi_list (pv 2)) (pg_tup rfl (pgs_cons (pg_name (i := 3) sc_keeps_ties.nd rfl (Or.inl rfl)) (pgs_cons (pg_name (i := 4) sc_keeps_ties.nd rfl (Or.inl rfl)) (pgs_cons (pg_name (i := 5) sc_keeps_ties.nd rfl (Or.inl rfl)) pgs_nil)))) (pss_one (ps_if (pt_cmpR op_ne (pe_ix ix_list (pe_ix ix_list (pe_fld (pv 0) rfl) (pv 4) (fun _ _ => rfl)) (pe_ix ix_list (pv 1) (pv 3) (fun _ _ => rfl)) (fun _ _ => rfl)) (pe_ix ix_list (pv 1) (pv 5) (fun _ _ => rfl)) (nomark _)) (pss_one (ps_ret pe_bl)) pss_nil)))
    (pss_one (ps_ret pe_bl))), ?_⟩)
  · obtain ⟨_, _, _, ⟨_, _, _, _, _, _, _, rfl, _⟩, _⟩ := h
    rfl
  · obtain ⟨M, P, hM, ⟨i, m, t, taken, ties, v, u, rfl, ⟨c, hi, ok, io⟩, hv, hu, hx, rfl⟩, k⟩ := h
    refine s_forPS (M := M) (src := ties) (ev_d rfl hu) (fun j σ' => (∃ x y z, σ' = [some (.ref i), some v, some u, x, y, z]) ∧ (ties.take j).all (fun x => decide (Fc05.go m t x.f (taken.getD x.a 0) = taken.getD x.b 0)) = true) ⟨⟨_, _, _, rfl⟩, rfl⟩ ?_ ?_
    · rintro j x vx σ' H1 N e1 hx' ⟨⟨a, b, c', rfl⟩, hall⟩ hvx nx
      obtain ⟨t1, t2, t3, t4⟩ := hx x (List.mem_of_getElem? hx')
      refine g_t3 hid_sub hvx ?_
      have hi1 := hi.mono (hid_mono (M := M) e1)
      have hv1 := Is.mono (hid_mono (M := M) e1) hv
      refine s_if (et_test (M := M) (ev_neN (ev_ixL (ev_ixL (ev_leads T (ev_o rfl) hi1) (ev_n rfl) (leads_at t1)) (ev_ixL (ev_d rfl hv1) (ev_n rfl) (getD_at t2)) (lead_at t4)) (ev_ixL (ev_d rfl hv1) (ev_n rfl) (getD_at t3)))) (fun hb H2 e2 => ?_) fun hb H2 e2 => ?_
      · refine s_rk k (e1.trans e2) ((ev_c (P := .is false) is_bool).eq ?_)
        symm
        unfold keepsB
        rw [List.all_eq_false]
        exact ⟨x, List.mem_of_getElem? hx', by simpa using hb⟩
      · refine nx _ _ ⟨⟨_, _, _, rfl⟩, ?_⟩ e2
        rw [tk_more hx', List.all_append, hall, List.all_cons]
        simpa using hb
    · rintro σ' H1 e1 ⟨⟨a, b, c', rfl⟩, hall⟩
      rw [List.take_length] at hall
      exact s_rk k e1 ((ev_c (P := .is true) is_bool).eq hall.symm)
theorem ok_longer_maps {f : Addr} {fd : FuncData} (F : Fun K "longer_maps" "longer_maps" s_longer_maps f fd) (T : Txt K mg CC CI CL WN) (g_keeps_ties : DefOk P w K mg base 1 "keeps_ties" ["target", "taken", "ties"] (sp_keeps_ties CC CI CL)) : FnOk P w K mg base CX0 2 f fd ["found", "target", "size", "ties"] (sp_longer_maps CC CI CL) := by
  refine F.ok sc_longer_maps (fun vs H Q E h => ?_) (fun cdv A outer s H vs Q E hr h => ⟨_, (pss_cons (ps_set (i := 4) sc_longer_maps.nd rfl (Or.inl rfl) (pe_lst pa_nil))
    (pss_cons (ps_for PassesOwn.never rfl (pi_list (pv 0)) (pg_name (i := 5) sc_longer_maps.nd rfl (Or.inl rfl)) (pss_one (ps_for PassesOwn.never rfl (pi_range1 (by rfl) T.f_range (pa_cons (pv 2) pa_nil)) (pg_name (i := 6) sc_longer_maps.nd rfl (Or.inl rfl)) (pss_cons (ps_set (i := 7) sc_longer_maps.nd rfl (Or.inl rfl) (pe_op op_cat (pv 5) (pe_lst (pa_cons (pv 6) pa_nil))))
    (pss_one (ps_if (pt_val (pe_callD g_keeps_ties (hr.mono (by decide)) rfl (pa_cons (pv 1) (pa_cons (pv 7) (pa_cons (pv 3) pa_nil))))) (pss_one (ps_expr (pe_bm PySem.F.plainAttrs_list PySem.F.slot_list_append PySem.F.type_list_append mt_append (pv 4) (pa_cons (pv 7) pa_nil)))) pss_nil))))))
    (pss_one (ps_ret (pv 4))))), ?_⟩)
  · obtain ⟨_, _, _, ⟨_, _, _, _, _, _, _, _, rfl, _⟩, _⟩ := h
    rfl
  · obtain ⟨M, P, hM, ⟨i, m, t, found, size, ties, v, u, rfl, hi, hv, hu, hf, hs, hx, rfl⟩, k⟩ := h
    refine s_newS fun l hl => ?_
    have c0 : Cw M H l ([] : List (List Nat)) (upd H l (.lst [])) := Cw.start
    refine s_forCS (acc := fun j => longerL m t (found.take j) size ties) c0 (ev_d rfl (Is.mono (c0.le hM hl).same hv)) rfl (fun _ σ' => ∃ x y z, σ' = [some v, some (.ref i), some (.int size), some u, some (.ref l), x, y, z]) ⟨_, _, _, rfl⟩ ?_ ?_
    · rintro j taken vt σ' H1 N e1 ht ⟨x, y, z, rfl⟩ cw hvt nx
      have hxt := hx taken (List.mem_of_getElem? ht)
      have a1 : (longerL m t (found.take j) size ties).length ≤ 300000 := by
        have := flatMap_len (found.take j) (fun taken => ((List.range size).filter fun v => keepsB m t (taken ++ [v]) ties).map fun v => taken ++ [v]) 6 fun x _ => by
          rw [List.length_map]
          have h1 := List.length_filter_le (fun v => keepsB m t (x ++ [v]) ties) (List.range size)
          rw [List.length_range] at h1
          omega
        have h2 := take_sub (l := found) (i := j)
        have h3 : (longerL m t (found.take j) size ties).length ≤ (found.take j).length * 6 := this
        omega
      refine s_forRC (n := size) (acc := fun n => longerL m t (found.take j) size ties ++ (((List.range size).take n).filter fun v => keepsB m t (taken ++ [v]) ties).map fun v => taken ++ [v]) cw (ea_cons (ev_n rfl) ea_nil) (by omega) (List.append_nil _) (fun _ σ' => ∃ y z, σ' = [some v, some (.ref i), some (.int size), some u, some (.ref l), some vt, y, z]) ⟨_, _, rfl⟩ ?_ ?_
      · rintro n σ' H2 N' e2 hn ⟨y, z, rfl⟩ cw2 nx'
        have le2 := cw2.le hM hl
        have hr : (List.range size)[n]? = some n := List.getElem?_range hn
        have fm := fm_more (f := fun v => taken ++ [v]) (keep := fun v => keepsB m t (taken ++ [v]) ties) hr
        refine s_asgS (M := also M l) (ev_cat (l := taken) (k := [n]) (by simp; omega) le2.tr (ev_d rfl (Is.mono e2 hvt)) (ev_lst1 le2.tr (ev_n rfl))) fun v3 H3 e3 hv3 => ?_
        have cw3 := cw2.on e3
        have le3 := cw3.le hM hl
        refine s_if (et_B (M := also M l) (ev_keeps_ties le3.tr (ev_o rfl) (hi.mono le3.same) (fun x hx'' => hxt.2 n hn x hx'') (ev_d rfl hv3) (ev_d rfl (Is.mono le3.same hu)))) (fun hb H4 e4 => ?_) fun hb H4 e4 => ?_
        · have cw4 := cw3.on e4
          refine s_appC cw4 ?_ rfl (ev_d rfl (Is.mono (hid_mono e4) hv3)) fun H5 cw5 e5 => nx' _ _ ⟨_, _, rfl⟩ ?_ ((hid_mono (e3.trans e4)).trans e5)
          · have a2 := fm_len (l := List.range size) (i := n) (keep := fun v => keepsB m t (taken ++ [v]) ties) (f := fun v => taken ++ [v])
            rw [List.length_range] at a2
            rw [List.length_append]
            omega
          · show Cw M H l (_ ++ _) H5
            rw [fm, if_pos hb, ← List.append_assoc]
            exact cw5
        · refine nx' _ _ ⟨_, _, rfl⟩ ?_ (hid_mono (e3.trans e4))
          show Cw M H l (_ ++ _) H4
          rw [fm, if_neg (by rw [hb]; exact Bool.false_ne_true)]
          exact cw3.on e4
      · rintro σ' H2 e2 ⟨y, z, rfl⟩ cw2
        refine nx _ _ ⟨_, _, _, rfl⟩ ?_ e2
        show Cw M H l (longerL _ _ _ _ _) H2
        unfold longerL
        rw [flatMap_take ht]
        have e3 : (List.range size).take size = List.range size := List.take_of_length_le (by rw [List.length_range]; omega)
        simp only [e3] at cw2
        exact cw2
    · rintro σ' H1 e1 ⟨x, y, z, rfl⟩ cw
      rw [List.take_length] at cw
      exact s_rk k (cw.same hl) (ev_d rfl (cw.is hM hl))
theorem ok_ties_closed_by {f : Addr} {fd : FuncData} (F : Fun K "ties_closed_by" "ties_closed_by" s_ties_closed_by f fd) (T : Txt K mg CC CI CL WN) (g_arrows_from : MetOk P w K mg base CC 1 "arrows_from" ["self", "x"] (sp_arrows_from CC CI CL)) : FnOk P w K mg base CX0 2 f fd ["source", "rows", "k"] (sp_ties_closed_by CC CI CL) := by
  refine F.ok sc_ties_closed_by (fun vs H Q E h => ?_) (fun cdv A outer s H vs Q E hr h => ⟨_, (pss_cons (ps_set (i := 3) sc_ties_closed_by.nd rfl (Or.inl rfl) (pe_lst pa_nil))
    (pss_cons (ps_for PassesOwn.never rfl (pi_range1 (by rfl) T.f_range (pa_cons (pe_op op_add (pv 2) pe_int) pa_nil)) (pg_name (i := 4) sc_ties_closed_by.nd rfl (Or.inl rfl)) (pss_one (ps_for PassesOwn.never rfl (pi_list (pe_methD (pe_fld (pv 0) rfl) T.cCC g_arrows_from (hr.mono (by decide)) (pa_cons (pe_ix ix_tup (pe_ix ix_list (pv 1) (pv 4) (fun _ _ => rfl)) pe_int (fun _ _ => rfl)) pa_nil))) (pg_name (i := 5) sc_ties_closed_by.nd rfl (Or.inl rfl)) (pss_cons (ps_set (i := 6) sc_ties_closed_by.nd rfl (Or.inl rfl) (pe_bm PySem.F.plainAttrs_list PySem.F.slot_list_index PySem.F.type_list_index (mt_indexD (hu65 hr)) (pv 1) (pa_cons (pe_tup (pa_cons (pe_ix ix_list (pe_fld (pe_fld (pv 0) rfl) rfl) (pv 5) (fun _ _ => rfl)) (pa_cons (pe_ix ix_list (pe_ix ix_list (pe_fld (pv 0) rfl) (pv 5) (fun _ _ => rfl)) (pe_ix ix_tup (pe_ix ix_list (pv 1) (pv 4) (fun _ _ => rfl)) pe_int (fun _ _ => rfl)) (fun _ _ => rfl)) pa_nil))) pa_nil)))
    (pss_one (ps_if (pt_cmpR op_eq (pe_callB (call_max2 rfl) (by rfl) T.f_max (by decide +kernel) (pa_cons (pv 4) (pa_cons (pv 6) pa_nil))) (pv 2) (nomark _)) (pss_one (ps_expr (pe_bm PySem.F.plainAttrs_list PySem.F.slot_list_append PySem.F.type_list_append mt_append (pv 3) (pa_cons (pe_tup (pa_cons (pv 4) (pa_cons (pv 5) (pa_cons (pv 6) pa_nil)))) pa_nil)))) pss_nil))))))
    (pss_one (ps_ret (pv 3))))), ?_⟩)
  · obtain ⟨_, _, _, ⟨_, _, _, _, _, rfl, _⟩, _⟩ := h
    rfl
  · obtain ⟨M, P, hM, ⟨i, m, s, k', v, rfl, ⟨c, hi, ok, io⟩, hv, hk, hg, rfl⟩, k⟩ := h
    have pln := places_len ok io
    refine s_newS fun l hl => ?_
    have c0 : Cw M H l ([] : List T3) (upd H l (.lst [])) := Cw.start
    refine s_forRCS (n := k' + 1) (acc := fun n => ((List.range (k' + 1)).take n).flatMap (tiesA m s k')) c0 (ea_cons (ev_add (ev_n rfl) (ev_cn (n := 1))) ea_nil) (by omega) rfl (fun _ σ' => ∃ x y z, σ' = [some (.ref i), some v, some (.int k'), some (.ref l), x, y, z]) ⟨_, _, _, rfl⟩ ?_ ?_
    · rintro a σ' H1 N e1 ha ⟨x, y, z, rfl⟩ cw nx
      have le := cw.le hM hl
      have ha' : a < (Fc05.places m s).length := by omega
      have hv1 := Is.mono le.same hv
      have hra : (List.range (k' + 1))[a]? = some a := List.getElem?_range ha
      have tA : ∀ a, (tiesA m s k' a).length ≤ 8 := fun a => by
        unfold tiesA
        rw [List.length_map]
        have h1 := List.length_filter_le (fun f => decide (max a (ledIx m s a f) = k')) (arrowsFrom m (pl m s a).1)
        have := from_len ok (pl m s a).1
        omega
      have a1 : (((List.range (k' + 1)).take a).flatMap (tiesA m s k')).length ≤ 56 := by
        have := flatMap_len ((List.range (k' + 1)).take a) (tiesA m s k') 8 fun x _ => tA x
        have h2 := take_sub (l := List.range (k' + 1)) (i := a)
        rw [List.length_range] at h2
        omega
      refine s_forC (src := arrowsFrom m (pl m s a).1) (acc := fun n => ((List.range (k' + 1)).take a).flatMap (tiesA m s k') ++ (((arrowsFrom m (pl m s a).1).take n).filter fun f => decide (max a (ledIx m s a f) = k')).map fun f => ⟨a, f, ledIx m s a f⟩) cw
        (ev_arrows_from le.tr (ev_category T (ev_o rfl) (hi.mono le.same)) (hi.mono le.same).cat ok.eight (ev_ix0 (y := (pl m s a).2) (ev_ixL (ev_d rfl hv1) (ev_n rfl) (pl_at ha')))) (List.append_nil _) (fun _ σ' => ∃ y z, σ' = [some (.ref i), some v, some (.int k'), some (.ref l), some (.int a), y, z]) ⟨_, _, rfl⟩ ?_ ?_
      · rintro n f vf σ' H2 N' e2 hf ⟨y, z, rfl⟩ cw2 hvf nx'
        obtain rfl := Is.nat hvf
        have le2 := cw2.le hM hl
        have hi2 := hi.mono le2.same
        have hv2 := Is.mono le2.same hv
        have hfm := List.mem_of_getElem? hf
        have hf' := from_mem.mp hfm
        have hlm := led_mem ok hg (pl_mem ha').1 (pl_mem ha').2 hfm
        have hll : (pl m s a).2 < (lead m s f).length := by rw [lead_len ok io hf'.1, hf'.2]; exact (pl_mem ha').2
        have fm := fm_more (f := fun f => (⟨a, f, ledIx m s a f⟩ : T3)) (keep := fun f => decide (max a (ledIx m s a f) = k')) hf
        refine s_asgS (M := also M l) (ev_index (l := Fc05.places m s) (x := (Fc05.to_ m f, Fc05.go m s f (pl m s a).2)) (by decide) hlm (ev_d rfl hv2) (ev_tup (tr := tNil) le2.tr (ev_ixL (ev_ends T (ev_category T (ev_o rfl) hi2) hi2.cat) (ev_n rfl) (arrows_at2 hf'.1))
          (ev_ixL (ev_ixL (ev_leads T (ev_o rfl) hi2) (ev_n rfl) (leads_at hf'.1)) (ev_ix1 (x := (pl m s a).1) (ev_ixL (ev_d rfl hv2) (ev_n rfl) (pl_at ha'))) (lead_at hll)))) fun v3 H3 e3 hv3 => ?_
        obtain rfl := Is.nat hv3
        have cw3 := cw2.on e3
        refine s_if (et_test (M := also M l) (ev_eqN (ev_max2 (ev_n rfl) (ev_n rfl)) (ev_n rfl))) (fun hb H4 e4 => ?_) fun hb H4 e4 => ?_
        · have cw4 := cw3.on e4
          refine s_appC cw4 ?_ rfl (ev_t3 (cw4.le hM hl).tr (ev_n rfl) (ev_n rfl) (ev_n rfl)) fun H5 cw5 e5 => nx' _ _ ⟨_, _, rfl⟩ ?_ ((hid_mono (e3.trans e4)).trans e5)
          · have a2 := fm_len (l := arrowsFrom m (pl m s a).1) (i := n) (keep := fun f => decide (max a (ledIx m s a f) = k')) (f := fun f => (⟨a, f, ledIx m s a f⟩ : T3))
            have := from_len ok (pl m s a).1
            rw [List.length_append]
            omega
          · show Cw M H l (_ ++ _) H5
            rw [fm, if_pos (show decide (max a (ledIx m s a f) = k') = true from hb), ← List.append_assoc]
            exact cw5
        · refine nx' _ _ ⟨_, _, rfl⟩ ?_ (hid_mono (e3.trans e4))
          show Cw M H l (_ ++ _) H4
          rw [fm, if_neg (by rw [show decide (max a (ledIx m s a f) = k') = false from hb]; exact Bool.false_ne_true)]
          exact cw3.on e4
      · rintro σ' H2 e2 ⟨y, z, rfl⟩ cw2
        refine nx _ _ ⟨_, _, _, rfl⟩ ?_ e2
        show Cw M H l (List.flatMap _ _) H2
        rw [flatMap_take hra]
        rw [List.take_length] at cw2
        exact cw2
    · rintro σ' H1 e1 ⟨x, y, z, rfl⟩ cw
      have e3 : (List.range (k' + 1)).take (k' + 1) = List.range (k' + 1) := List.take_of_length_le (by rw [List.length_range]; omega)
      simp only [e3] at cw
      exact s_rk k (cw.same hl) (ev_d rfl (cw.is hM hl))
theorem ok_maps_between {f : Addr} {fd : FuncData} (F : Fun K "maps_between" "maps_between" s_maps_between f fd) (T : Txt K mg CC CI CL WN) (g_longer_maps : DefOk P w K mg base 2 "longer_maps" ["found", "target", "size", "ties"] (sp_longer_maps CC CI CL)) (g_ties_closed_by : DefOk P w K mg base 2 "ties_closed_by" ["source", "rows", "k"] (sp_ties_closed_by CC CI CL)) (g_all_rows : MetOk P w K mg base CI 1 "all_rows" ["self"] (sp_all_rows CC CI CL)) : FnOk P w K mg base CX0 3 f fd ["source", "target"] (sp_maps_between CC CI CL) := by
  refine F.ok sc_maps_between (fun vs H Q E h => ?_) (fun cdv A outer s H vs Q E hr h => ⟨_, (pss_cons (ps_set (i := 2) sc_maps_between.nd rfl (Or.inl rfl) (pe_methD0 (pv 0) T.cCI g_all_rows (hr.mono (by decide))))
    (pss_cons (ps_set (i := 3) sc_maps_between.nd rfl (Or.inl rfl) (pe_lst (pa_cons (pe_lst pa_nil) pa_nil)))
    (pss_cons (ps_for PassesOwn.never rfl (pi_enum (by rfl) T.f_enumerate (pa_cons (pv 2) pa_nil)) (pg_tup rfl (pgs_cons (pg_name (i := 4) sc_maps_between.nd rfl (Or.inl rfl)) (pgs_cons (pg_name (i := 5) sc_maps_between.nd rfl (Or.inl rfl)) pgs_nil))) (pss_one (ps_set (i := 3) sc_maps_between.nd rfl (Or.inl rfl) (pe_callD g_longer_maps (hr.mono (by decide)) rfl (pa_cons (pv 3) (pa_cons (pv 1) (pa_cons (pe_ix ix_list (pe_fld (pv 1) rfl) (pe_ix ix_tup (pv 5) pe_int (fun _ _ => rfl)) (fun _ _ => rfl)) (pa_cons (pe_callD g_ties_closed_by (hr.mono (by decide)) rfl (pa_cons (pv 0) (pa_cons (pv 2) (pa_cons (pv 4) pa_nil)))) pa_nil))))))))
    (pss_one (ps_ret (pv 3)))))), ?_⟩)
  · obtain ⟨_, _, _, ⟨_, _, _, _, _, rfl, _⟩, _⟩ := h
    rfl
  · obtain ⟨M, P, hM, ⟨i, j, m, s, t, rfl, ⟨c, hi, ok, ios⟩, ⟨c', hj, _, iot⟩, hg, rfl⟩, k⟩ := h
    have pln := places_len ok ios
    refine s_asgS (M := M) (ev_all_rows hM (ev_o rfl) hi ok ios) fun vr H1 e1 hvr => ?_
    have hM1 := hM.mono e1
    refine s_asgS (M := M) (ev_lst1 (x := ([] : List Nat)) hM1 (ev_lst0 hM1)) fun vf H2 e2 hvf => ?_
    have e12 := e1.trans e2
    have hM2 := hM.mono e12
    refine s_forEQS (M := M) (src := Fc05.places m s) (ea_cons (ev_d rfl (Is.mono (hid_mono e2) hvr)) ea_nil) (fun n σ' H' => ∃ vf x y, σ' = [some (.ref i), some (.ref j), some vr, some vf, x, y] ∧ Is (hid M H') vf (mapsTo m s t n)) (fun H3 e3 => ⟨vf, _, _, rfl, Is.mono (hid_mono e3) hvf⟩) ?_ ?_
    · rintro n ⟨x, r⟩ vx σ' H3 H4 N e3 e4 hx ⟨vf', a, b, rfl, hvf'⟩ hvx nx
      have hn : n < (Fc05.places m s).length := (List.getElem?_eq_some_iff.mp hx).1
      have hpl : pl m s n = (x, r) := by
        have := pl_at hn
        rw [hx] at this
        exact (Option.some.inj this).symm
      have e14 := (e12.trans e3).trans e4
      have hM4 := hM.mono e14
      have hj4 := hj.mono (hid_mono (M := M) e14)
      have hxn := (places_mem.mp (List.mem_of_getElem? hx)).1
      have a1 := mapsTo_len (s := s) iot n
      have a2 : 6 ^ n ≤ 6 ^ 5 := Nat.pow_le_pow_right (by decide) (by omega)
      refine s_asg (M := M) (ev_longer_maps (found := mapsTo m s t n) (size := Fc05.rows t (pl m s n).1) (ties := tiesL m s n) hM4 (ev_o rfl) ⟨c', hj4, ok, iot⟩ (by have : 6 ^ 5 ≤ 50000 := by decide
                                                                                                                                                                     omega) (rows_le iot _) (fun taken ht => ⟨by have := (mapsTo_mem n taken ht).1; omega, fun y hy x hx' => tie_ok ok ios iot ht hy hx'⟩) (ev_d rfl (Is.mono (hid_mono e4) hvf')) ?_ (ev_ties_closed_by hM4 (ev_o rfl) ⟨c, hi.mono (hid_mono e14), ok, ios⟩ hn hg (ev_d rfl (Is.mono (hid_mono ((e2.trans e3).trans e4)) hvr)) (ev_n rfl))) fun v5 H5 e5 hv5 => nx _ _ ⟨v5, _, _, rfl, hv5⟩ e5
      rw [hpl]
      exact ev_ixL (ev_sizes T (ev_o rfl) hj4) (ev_ix0 (y := r) (ev_d rfl hvx)) (size_at iot hxn)
    · rintro σ' H3 e3 ⟨vf', a, b, rfl, hvf'⟩
      exact s_rk k (e12.trans e3) (ev_d rfl hvf')
end
end Im

namespace Im
open PySem PySem.Spec PyProof.Rows L2
/-! ### what changes objects -/
def M0 : Addr → Prop := fun _ => False
theorem hid0 {H : Hp} : hid M0 H = H := by
  funext a
  exact hid_no fun z => z
theorem tr0 {H : Hp} : Tr M0 H := fun _ z => z.elim
def dom (H : Hp) : Addr → Prop := fun a => H a ≠ none
theorem trD {H : Hp} : Tr (dom H) H := fun _ z => z
theorem dom_no {H : Hp} {a : Addr} (h : ¬ dom H a) : H a = none := by
  cases e : H a with
  | none => rfl
  | some o => exact absurd (by unfold dom; rw [e]; exact fun z => nomatch z) h
theorem rep_flat (n : Nat) (v : V) : (List.replicate n [v]).flatten = List.replicate n v := by
  induction n with
  | zero => rfl
  | succ n ih =>
    rw [List.replicate_succ, List.flatten_cons, List.replicate_succ, ih]
    rfl
theorem isL_rep {α : Type} [Enc α] {H : Hp} {v : V} {x : α} (n : Nat) (h : Is H v x) : IsL H (List.replicate n v) (List.replicate n x) := by
  induction n with
  | zero => exact isL_nil
  | succ n ih => exact isL_cons h ih
abbrev nv (l : List Nat) : List V := l.map fun (n : Nat) => V.int n
theorem is_nv {H : Hp} {a : Addr} {l : List Nat} (h : H a = some (.lst (nv l))) : Is H (.ref a) l := is_list h (isL_nats l)
section
variable {α : Type} [Enc α] {K : PySem.W.Frag} {M M' M'' : Addr → Prop} {σ : L2.St} {H : Hp} {ta tb te tv to ti : TE} {P : Pr} {D : Ends} {rest : TS} {x : α}
theorem Ev.lift {n : Nat} (h : Ev M te σ H (.is n)) : Ev M' te σ H (.is n) := fun H1 e Q q => h H1 e Q fun v H2 e2 hv => q v H2 e2 (by
  obtain rfl := Is.nat hv
  exact is_nat)
theorem Ev.liftV {v : V} (h : Ev M te σ H (.val v)) : Ev M' te σ H (.val v) := fun H1 e Q q => h H1 e Q fun u H2 e2 hv => q u H2 e2 hv
theorem ev_rep {n : Nat} (hn : n ≤ 100000) (hM : Tr M H) (ha : Ev M ta σ H (.is [x])) (hb : Ev M tb σ H (.is n)) : Ev M (tOp rRep ta tb) σ H (.is (List.replicate n x)) :=
  fun H1 e Q q => ha H1 e _ fun w H2 e2 hw => hb H2 (e.trans e2) _ fun z H3 e3 hz => by
    obtain rfl := Is.nat hz
    obtain ⟨a, vs, rfl, h1, h2⟩ := Is.list (hw.mono (hid_mono e3))
    have hl := h2.length
    match vs, hl with
    | [v], _ =>
      have hv : Is (hid M H3) v x := by
        obtain ⟨y, hy, hv⟩ := h2.get (i := 0) rfl
        obtain rfl := Option.some.inj hy
        exact hv
      refine ⟨a, (n : Int), [v], rfl, rfl, hid_sub _ _ h1, by omega, by omega, ?_, fun p hp => ?_⟩
      · rw [List.length_singleton, Nat.one_mul]
        exact Nat.le_trans (by omega) (by decide : 100000 ≤ sizeLine)
      · have np : ¬ M p := (hM.mono ((e.trans e2).trans e3)).new hp
        have e5 : (List.replicate ((n : Int)).toNat [v]).flatten = List.replicate n v := by
          have e6 : ((n : Int)).toNat = n := by omega
          rw [e6]
          exact rep_flat n v
        have e4 : Same (hid M H3) (hid M (upd H3 p (.lst (List.replicate ((n : Int)).toNat [v]).flatten))) := hid_mono (same_new hp)
        refine q _ _ ((e2.trans e3).trans (same_new hp)) (is_list (vs := List.replicate n v) ?_ (isL_rep n (hv.mono e4)))
        rw [hid_no np, upd_same, e5]
theorem s_fld {i : Nat} {f : Str} {a C dx : Addr} {fs : List (Str × V)} (hv : Ev M tv σ H P) (ha : σ[i]? = some (some (.ref a))) (ho : H a = some (.ins C dx fs)) (hc : Cls K C) (hn : NoAttr K C f) (hl : fs.length < 1000) (k : ∀ v H1, Same H H1 → P.p v (hid M H1) → D.nx σ (upd H1 a (.ins C dx (putF f v fs)))) : sFld K (tVar i) tv f D σ H :=
  hv H (Same.refl H) _ fun v H1 e1 hp => ⟨.ref a, ha, a, C, dx, fs, rfl, e1 _ _ ho, hc, hn, hl, k v H1 e1 hp⟩
theorem s_fldS {i : Nat} {f : Str} {a C dx : Addr} {fs : List (Str × V)} (hv : Ev M tv σ H P) (ha : σ[i]? = some (some (.ref a))) (ho : H a = some (.ins C dx fs)) (hc : Cls K C) (hn : NoAttr K C f) (hl : fs.length < 1000) (k : ∀ v H1, Same H H1 → P.p v (hid M H1) → rest D σ (upd H1 a (.ins C dx (putF f v fs)))) : tSeq (sFld K (tVar i) tv f) rest D σ H :=
  s_fld (D := { D with nx := rest D }) hv ha ho hc hn hl k
theorem s_setL {p : Addr} {xs : List V} {j : Nat} (h : Ev M te σ H P) (ho : Ev M' to σ H (.val (.ref p))) (hi : Ev M'' ti σ H (.is j)) (hp : H p = some (.lst xs)) (hj : j < xs.length) (k : ∀ v H1, Same H H1 → P.p v (hid M H1) → D.nx σ (upd H1 p (.lst (xs.set j v)))) : tAsg te (gSub to ti rSetL) D σ H :=
  h H (Same.refl H) _ fun v H1 e1 hv => ho H1 e1 _ fun w H2 e2 hw => hi H2 (e1.trans e2) _ fun z H3 e3 hz => by
    obtain rfl : w = .ref p := hw
    obtain rfl := Is.nat hz
    have e := (e1.trans e2).trans e3
    refine ⟨p, xs, (j : Int), j, rfl, rfl, e _ _ hp, ?_, k v H3 e (P.mono (hid_mono (e2.trans e3)) hv)⟩
    unfold ixN
    rw [if_pos (by omega), if_pos (by omega)]
    simp
end

def sp_initCategory (CC CI CL : Addr) : Sp := fun vs H Q _ => ∃ (x dx : Addr) (n : Nat), vs = [.ref x, .int n] ∧ H x = some (.ins CC dx []) ∧ n ≤ 1000 ∧
  ∀ (H' : Hp) (b e d : Addr), (∀ a o, H a = some o → a ≠ x → H' a = some o) → H' x = some (.ins CC dx (catF n b e d)) → H b = none → H e = none → H d = none → b ≠ e → H' b = some (.lst (nv (List.range n))) → H' e = some (.lst (nv (List.range n))) → H' d = some (.dT []) → Q .non H'
def sp_add_arrow (CC CI CL : Addr) : Sp := fun vs H Q _ => ∃ (c dx b e d : Addr) (n x y : Nat) (bs es : List V), vs = [.ref c, .int x, .int y] ∧ H c = some (.ins CC dx (catF n b e d)) ∧ H b = some (.lst bs) ∧ H e = some (.lst es) ∧ b ≠ e ∧ bs.length < 1000 ∧ es.length < 1000 ∧
  Q (.int (bs.length : Nat)) (upd (upd H b (.lst (bs ++ [.int x]))) e (.lst (es ++ [.int y])))
def sp_tell_made (CC CI CL : Addr) : Sp := fun vs H Q _ => ∃ (c dx b e d : Addr) (n f g h : Nat) (kvs : List (List Key × V)), vs = [.ref c, .int f, .int g, .int h] ∧ H c = some (.ins CC dx (catF n b e d)) ∧ H d = some (.dT kvs) ∧ kvs.length < 100000 ∧
  ∀ H' : Hp, (∀ a o, H a = some o → a ≠ d → H' a = some o) → H' d = some (.dT (putK kvs [Sum.inl (f : Int), Sum.inl (g : Int)] (.int h))) → Q .non H'
def sp_initInstance (CC CI CL : Addr) : Sp := fun vs H Q _ => ∃ (x dx c : Addr) (m : Fc05.Cat), vs = [.ref x, .ref c] ∧ H x = some (.ins CI dx []) ∧ CatAt CC H c m ∧ CatOk m ∧
  ∀ (H' : Hp) (s l : Addr) (las : List Addr), (∀ a o, H a = some o → a ≠ x → H' a = some o) → H' x = some (.ins CI dx (instF c s l)) → H s = none → H l = none → H' s = some (.lst (nv (List.replicate m.n 0))) → H' l = some (.lst (las.map V.ref)) → las.length = m.arrows.length → (∀ la ∈ las, H la = none ∧ H' la = some (.lst [])) → Q .non H'
theorem catF_new {n : Nat} {b e d : Addr} : putF "made" (.ref d) (putF "ends" (.ref e) (putF "begins" (.ref b) (putF "things" (.int n) []))) = catF n b e d := by
  have h1 : putF "things" (.int n) [] = [(("things" : Str), (V.int n : V))] := rfl
  rw [h1, put_past (by decide +kernel)]
  have h2 : putF "begins" (.ref b) [] = [(("begins" : Str), (V.ref b : V))] := rfl
  rw [h2, put_past (by decide +kernel), put_past (by decide +kernel)]
  have h3 : putF "ends" (.ref e) [] = [(("ends" : Str), (V.ref e : V))] := rfl
  rw [put_past (f := "ends") (g := "begins") (by decide +kernel), h3, put_past (f := "made") (g := "begins") (by decide +kernel), put_past (f := "made") (g := "ends") (by decide +kernel)]
  rfl
theorem instF_new {c s l : Addr} : putF "leads" (.ref l) (putF "sizes" (.ref s) (putF "category" (.ref c) [])) = instF c s l := by
  have h1 : putF "category" (.ref c) [] = [(("category" : Str), (V.ref c : V))] := rfl
  rw [h1, put_past (by decide +kernel)]
  have h2 : putF "sizes" (.ref s) [] = [(("sizes" : Str), (V.ref s : V))] := rfl
  rw [h2, put_past (by decide +kernel), put_past (by decide +kernel)]
  rfl
theorem putF_len {f : Str} {v : V} {fs : List (Str × V)} : (putF f v fs).length ≤ fs.length + 1 := by
  induction fs with
  | nil => exact Nat.le_refl _
  | cons p r ih =>
    obtain ⟨g, x⟩ := p
    unfold putF
    split
    · simp
    · simp only [List.length_cons]
      omega
section
variable {P : Program} {w : World} {K : PySem.W.Frag} {mg : Str → Option Value} {base : Heap} {CC CI CL WN : Addr}
theorem ok_initCategory {f : Addr} {fd : FuncData} (F : Fun K "__init__" "Category.__init__" s_initCategory f fd) (T : Txt K mg CC CI CL WN) : FnOk P w K mg base CX0 1 f fd ["self", "things"] (sp_initCategory CC CI CL) := by
  refine F.ok sc_initCategory (fun vs H Q E h => ?_) (fun cdv A outer s H vs Q E hr h => ⟨_, (pss_cons (ps_fld (pv 0) (pv 1) rfl)
    (pss_cons (ps_fld (pv 0) (pe_listRg rfl (by rfl) T.f_list (prg_1 (by rfl) T.f_range (pv 1))) rfl)
    (pss_cons (ps_fld (pv 0) (pe_listRg rfl (by rfl) T.f_list (prg_1 (by rfl) T.f_range (pv 1))) rfl)
    (pss_one (ps_fld (pv 0) pe_dnewT rfl))))), ?_⟩)
  · obtain ⟨_, _, _, rfl, _⟩ := h
    rfl
  · obtain ⟨x, dx, n, rfl, hx, hn, k⟩ := h
    refine s_fldS (M := M0) (P := .is n) (ev_n rfl) rfl hx T.cCC T.nCC_things (by simp) fun v H1 e1 hv => ?_
    obtain rfl := Is.nat hv
    refine s_fldS (M := dom (upd H1 x (.ins CC dx (putF "things" (.int n) [])))) (P := .is (List.range n)) (ev_lrg1 trD (by omega) (ev_n rfl)) rfl upd_same T.cCC T.nCC_begins (by have := putF_len (f := "things") (v := .int n) (fs := []); simp at this; omega) fun v2 H2 e2 hv2 => ?_
    obtain ⟨b, vs, rfl, hb, hvs⟩ := Is.list hv2
    obtain rfl := hvs.nats
    obtain ⟨nb, hb'⟩ := hid_some hb
    have nb1 := dom_no nb
    have nbx : b ≠ x := fun z => by rw [z, upd_same] at nb1; cases nb1
    rw [upd_ne nbx] at nb1
    generalize hF2 : putF "begins" (.ref b) (putF "things" (.int n) []) = F2
    refine s_fldS (M := dom (upd H2 x (.ins CC dx F2))) (P := .is (List.range n)) (ev_lrg1 trD (by omega) (ev_n rfl)) rfl upd_same T.cCC T.nCC_ends (by
      have h1 := putF_len (f := "things") (v := .int n) (fs := [])
      have h2 := putF_len (f := "begins") (v := .ref b) (fs := putF "things" (.int n) [])
      rw [hF2] at h2
      simp at h1
      omega) fun v3 H3 e3 hv3 => ?_
    obtain ⟨e, vs, rfl, he, hvs⟩ := Is.list hv3
    obtain rfl := hvs.nats
    obtain ⟨ne, he'⟩ := hid_some he
    have ne1 := dom_no ne
    have nex : e ≠ x := fun z => by rw [z, upd_same] at ne1; cases ne1
    rw [upd_ne nex] at ne1
    have nbe : b ≠ e := fun z => by rw [← z, hb'] at ne1; cases ne1
    generalize hF3 : putF "ends" (.ref e) F2 = F3
    refine fun d hd => ?_
    have ndx : d ≠ x := fun z => by rw [z, upd_same] at hd; cases hd
    rw [upd_ne ndx] at hd
    have f12 : ∀ a o, H a = some o → a ≠ x → H1 a = some o := fun a o h _ => e1 a o h
    have f23 : ∀ a o, H1 a = some o → a ≠ x → H2 a = some o := fun a o h hx => e2 a o (by rw [upd_ne hx]; exact h)
    have f34 : ∀ a o, H2 a = some o → a ≠ x → H3 a = some o := fun a o h hx => e3 a o (by rw [upd_ne hx]; exact h)
    have back1 : ∀ a, H1 a = none → H a = none := fun a h => e1.free h
    have back2 : ∀ a, a ≠ x → H2 a = none → H1 a = none := fun a hx h => by
      cases q : H1 a with
      | none => rfl
      | some o => rw [f23 a o q hx] at h; cases h
    have back3 : ∀ a, a ≠ x → H3 a = none → H2 a = none := fun a hx h => by
      cases q : H2 a with
      | none => rfl
      | some o => rw [f34 a o q hx] at h; cases h
    have ndb : b ≠ d := fun z => by rw [← z, f34 b _ hb' nbx] at hd; cases hd
    have nde : e ≠ d := fun z => by rw [← z, he'] at hd; cases hd
    refine ⟨.ref x, rfl, x, CC, dx, F3, rfl, ?_, T.cCC, T.nCC_made, ?_, ?_⟩
    · rw [upd_ne (Ne.symm ndx)]
      exact upd_same
    · have h1 := putF_len (f := "things") (v := .int n) (fs := [])
      have h2 := putF_len (f := "begins") (v := .ref b) (fs := putF "things" (.int n) [])
      have h3 := putF_len (f := "ends") (v := .ref e) (fs := F2)
      rw [hF2] at h2
      rw [hF3] at h3
      simp at h1
      omega
    · refine k _ b e d (fun a o h hx => ?_) ?_ (back1 b nb1) (back1 e (back2 e nex ne1)) (back1 d (back2 d ndx (back3 d ndx hd))) nbe ?_ ?_ ?_
      · have h3 := f34 a o (f23 a o (f12 a o h hx) hx) hx
        rw [upd_ne hx, upd_ne (ne_of_none h3 hd), upd_ne hx]
        exact h3
      · rw [upd_same, ← hF3, ← hF2]
        exact congrArg (fun F => some (HO.ins CC dx F)) catF_new
      · rw [upd_ne nbx, upd_ne ndb, upd_ne nbx]
        exact f34 b _ hb' nbx
      · rw [upd_ne nex, upd_ne nde, upd_ne nex]
        exact he'
      · rw [upd_ne ndx]
        exact upd_same
theorem lkB {n : Nat} {b e d : Addr} : (catF n b e d).lookup ("begins" : Str) = some (V.ref b) := (lk_past (by decide +kernel)).trans lk_here
theorem lkE {n : Nat} {b e d : Addr} : (catF n b e d).lookup ("ends" : Str) = some (V.ref e) := (lk_past (by decide +kernel)).trans ((lk_past (by decide +kernel)).trans lk_here)
theorem lkM {n : Nat} {b e d : Addr} : (catF n b e d).lookup ("made" : Str) = some (V.ref d) := (lk_past (by decide +kernel)).trans ((lk_past (by decide +kernel)).trans ((lk_past (by decide +kernel)).trans lk_here))
theorem lkS {c s l : Addr} : (instF c s l).lookup ("sizes" : Str) = some (V.ref s) := (lk_past (by decide +kernel)).trans lk_here
theorem lkL {c s l : Addr} : (instF c s l).lookup ("leads" : Str) = some (V.ref l) := (lk_past (by decide +kernel)).trans ((lk_past (by decide +kernel)).trans lk_here)
theorem sz1000 {n : Nat} (h : n < 1000) : n < sizeLine := Nat.lt_trans h (by decide)
theorem ok_add_arrow {f : Addr} {fd : FuncData} (F : Fun K "add_arrow" "Category.add_arrow" s_add_arrow f fd) (T : Txt K mg CC CI CL WN) : FnOk P w K mg base CX0 1 f fd ["self", "x", "y"] (sp_add_arrow CC CI CL) := by
  refine F.ok sc_add_arrow (fun vs H Q E h => ?_) (fun cdv A outer s H vs Q E hr h => ⟨_, (pss_cons (ps_expr (pe_bm PySem.F.plainAttrs_list PySem.F.slot_list_append PySem.F.type_list_append mt_append (pe_fld (pv 0) rfl) (pa_cons (pv 1) pa_nil)))
    (pss_cons (ps_expr (pe_bm PySem.F.plainAttrs_list PySem.F.slot_list_append PySem.F.type_list_append mt_append (pe_fld (pv 0) rfl) (pa_cons (pv 2) pa_nil)))
    (pss_one (ps_ret (pe_op op_sub (pe_callB call_len_seq (by rfl) T.f_len PySem.boot_len (pa_cons (pe_fld (pv 0) rfl) pa_nil)) pe_int))))), ?_⟩)
  · obtain ⟨_, _, _, _, _, _, _, _, _, _, rfl, _⟩ := h
    rfl
  · obtain ⟨c, dx, b, e, d, n, x, y, bs, es, rfl, hc, hb, he, hbe, h1, h2, k⟩ := h
    have ncb : c ≠ b := ne_of hc hb (fun z => nomatch z)
    have nce : c ≠ e := ne_of hc he (fun z => nomatch z)
    refine ⟨.ref c, rfl, c, CC, dx, _, .ref b, rfl, hc, T.cCC, T.nCC_begins, lkB, .inl ⟨rfl, bs, SqL.of hb⟩, .int x, rfl, b, bs, .int x, rfl, rfl, hb, sz1000 h1, ?_⟩
    have hc1 : upd H b (.lst (bs ++ [.int x])) c = some (.ins CC dx (catF n b e d)) := by rw [upd_ne ncb]; exact hc
    have he1 : upd H b (.lst (bs ++ [.int x])) e = some (.lst es) := by rw [upd_ne (Ne.symm hbe)]; exact he
    refine ⟨.ref c, rfl, c, CC, dx, _, .ref e, rfl, hc1, T.cCC, T.nCC_ends, lkE, .inl ⟨rfl, es, SqL.of he1⟩, .int y, rfl, e, es, .int y, rfl, rfl, he1, sz1000 h2, ?_⟩
    have hc2 : upd (upd H b (.lst (bs ++ [.int x]))) e (.lst (es ++ [.int y])) c = some (.ins CC dx (catF n b e d)) := by rw [upd_ne nce]; exact hc1
    have hb2 : upd (upd H b (.lst (bs ++ [.int x]))) e (.lst (es ++ [.int y])) b = some (.lst (bs ++ [.int x])) := by rw [upd_ne hbe]; exact upd_same
    refine ⟨.ref c, rfl, c, CC, dx, _, .ref b, rfl, hc2, T.cCC, T.nCC_begins, lkB, b, _, rfl, .inl (SqL.of hb2), ((bs ++ [V.int (x : Int)]).length : Int), 1, rfl, rfl, ?_⟩
    have e1 : (((bs ++ [V.int (x : Int)]).length : Nat) : Int) - 1 = (bs.length : Int) := by rw [List.length_append, List.length_singleton]; omega
    show Q (.int ((((bs ++ [V.int (x : Int)]).length : Nat) : Int) - 1)) _
    rw [e1]
    exact k
theorem ok_tell_made {f : Addr} {fd : FuncData} (F : Fun K "tell_made" "Category.tell_made" s_tell_made f fd) (T : Txt K mg CC CI CL WN) : FnOk P w K mg base CX0 1 f fd ["self", "f", "g", "h"] (sp_tell_made CC CI CL) := by
  refine F.ok sc_tell_made (fun vs H Q E h => ?_) (fun cdv A outer s H vs Q E hr h => ⟨_, (pss_one (ps_dput (hu_of hr) (pe_fld (pv 0) rfl) (pe_tup (pa_cons (pv 1) (pa_cons (pv 2) pa_nil))) (pv 3) rfl)), ?_⟩)
  · obtain ⟨_, _, _, _, _, _, _, _, _, _, rfl, _⟩ := h
    rfl
  · obtain ⟨c, dx, b, e, d, n, f, g, h, kvs, rfl, hc, hd, hl, k⟩ := h
    refine ⟨.int h, rfl, .ref c, rfl, c, CC, dx, _, .ref d, rfl, hc, T.cCC, T.nCC_made, lkM, .int f, rfl, .int g, rfl, by show 2 ≤ sizeLine; decide, fun p hp => ?_⟩
    have hd1 : upd H p (.tup [.int f, .int g]) d = some (.dT kvs) := same_new hp _ _ hd
    refine ⟨d, _, rfl, DPut.t (k := [Sum.inl (f : Int), Sum.inl (g : Int)]) hd1 upd_same (Nat.lt_trans hl (by decide)), ?_⟩
    refine k _ (fun a o h hx => ?_) upd_same
    rw [upd_ne hx]
    exact same_new hp _ _ h
theorem las_of {G : Hp} : ∀ {vs : List V} {n : Nat}, IsL G vs (List.replicate n ([] : List Nat)) → ∃ las : List Addr, vs = las.map V.ref ∧ las.length = n ∧ ∀ la ∈ las, G la = some (.lst [])
  | [], n, h => by
    have := h.length
    rw [List.length_replicate] at this
    exact ⟨[], rfl, this, fun _ z => nomatch z⟩
  | v :: vs, 0, h => by
    have := h.length
    cases this
  | v :: vs, n + 1, h => by
    cases h with
    | cons h1 h2 =>
      obtain ⟨las, rfl, h3, h4⟩ := las_of (vs := vs) (n := n) h2
      obtain ⟨a, us, rfl, h5, h6⟩ := Is.list (show Is G v ([] : List Nat) from h1)
      obtain rfl : us = [] := List.length_eq_zero_iff.mp h6.length
      refine ⟨a :: las, rfl, by rw [List.length_cons, h3], fun la hla => ?_⟩
      rcases List.mem_cons.mp hla with rfl | hla
      · exact h5
      · exact h4 la hla
theorem ok_initInstance {f : Addr} {fd : FuncData} (F : Fun K "__init__" "Instance.__init__" s_initInstance f fd) (T : Txt K mg CC CI CL WN) (g_arrow_count : MetOk P w K mg base CC 1 "arrow_count" ["self"] (sp_arrow_count CC CI CL)) : FnOk P w K mg base CX0 2 f fd ["self", "category"] (sp_initInstance CC CI CL) := by
  refine F.ok sc_initInstance (fun vs H Q E h => ?_) (fun cdv A outer s H vs Q E hr h => ⟨_, (pss_cons (ps_fld (pv 0) (pv 1) rfl)
    (pss_cons (ps_fld (pv 0) (pe_op op_rep (pe_lst (pa_cons pe_int pa_nil)) (pe_fld (pv 1) rfl)) rfl)
    (pss_one (ps_fld (pv 0) (pe_lc (own := [("f", 2)]) (g := gName 2) (tt := tYes) (te := (tLst tNil)) rfl sc_initInstance.nd (pi_range1 (by rfl) T.f_range (pa_cons (pe_methD0 (pv 1) T.cCC g_arrow_count (hr.mono (by decide))) pa_nil)) (blkOk_by (own := [("f", 2)]) (N := ["self", "category", "f"]) (sc := defScope s_initInstance) (by decide +kernel)) (fun _ _ _ _ _ => pg_name (i := 2) sc_initInstance.nd rfl (Or.inl rfl)) (fun _ _ _ _ _ => pts_nil) (fun _ _ _ _ _ => (pe_lst pa_nil))) rfl)))), ?_⟩)
  · obtain ⟨_, _, _, _, rfl, _⟩ := h
    rfl
  · obtain ⟨x, dx, c, m, rfl, hx, hc, ok, k⟩ := h
    refine s_fldS (M := M0) (P := .val (.ref c)) (ev_o rfl) rfl hx T.cCI T.nCI_category (by simp) fun v H1 e1 hv => ?_
    obtain rfl : v = .ref c := hv
    have ncx : c ≠ x := by
      obtain ⟨dx', b, e, d, kvs, q1, _⟩ := hc
      refine ne_of q1 hx fun z => ?_
      injection z with z1 z2 z3
      exact nomatch z3
    generalize hF1 : putF "category" (.ref c) [] = F1
    have l1 : F1.length ≤ 1 := by rw [← hF1]; exact putF_len (f := "category") (v := .ref c) (fs := [])
    have keep : ∀ (G G' : Hp) (o : HO), Same G G' → (∀ a u, H a = some u → a ≠ x → G a = some u) → ∀ a u, H a = some u → a ≠ x → upd G' x o a = some u := fun G G' o e f a u h hx => by
      rw [upd_ne hx]
      exact e _ _ (f a u h hx)
    have fr1 := keep H H1 (.ins CI dx F1) e1 fun a u h _ => h
    have cat : ∀ G : Hp, (∀ a u, H a = some u → a ≠ x → G a = some u) → CatAt CC G c m := fun G f => by
      obtain ⟨dx', b, e, d, kvs, q1, q2, q3, q4, q5⟩ := hc
      obtain ⟨_, vs, ev, q6, q7⟩ := Is.list q2
      cases ev
      obtain ⟨_, us, ev, q8, q9⟩ := Is.list q3
      cases ev
      obtain rfl := q7.nats
      obtain rfl := q9.nats
      exact ⟨dx', b, e, d, kvs, f _ _ q1 ncx, is_nv (f _ _ q6 (ne_of q6 hx fun z => nomatch z)), is_nv (f _ _ q8 (ne_of q8 hx fun z => nomatch z)), f _ _ q4 (ne_of q4 hx fun z => nomatch z), q5⟩
    have c1 := cat _ fr1
    have cn : m.n ≤ 1000 := by have := ok.three; omega
    refine s_fldS (M := dom (upd H1 x (.ins CI dx F1))) (P := .is (List.replicate m.n 0)) (ev_rep (by omega) trD (ev_lst1 trD (ev_cn (n := 0))) (Ev.lift (M := M0) (ev_things T (ev_o rfl) (by rw [hid0]; exact c1)))) rfl upd_same T.cCI T.nCI_sizes (by omega) fun v2 H2 e2 hv2 => ?_
    obtain ⟨s', vs, rfl, hs, hvs⟩ := Is.list hv2
    obtain rfl := hvs.nats
    obtain ⟨ns, hs'⟩ := hid_some hs
    have ns1 := dom_no ns
    have nsx : s' ≠ x := fun z => by rw [z, upd_same] at ns1; cases ns1
    rw [upd_ne nsx] at ns1
    generalize hF2 : putF "sizes" (.ref s') F1 = F2
    have l2 : F2.length ≤ 2 := by
      have := putF_len (f := "sizes") (v := .ref s') (fs := F1)
      rw [hF2] at this
      omega
    have fr2 := keep _ H2 (.ins CI dx F2) e2 fr1
    have c2 := cat _ fr2
    refine s_fld (M := dom (upd H2 x (.ins CI dx F2))) (P := .is (List.replicate m.arrows.length ([] : List Nat))) ?_ rfl upd_same T.cCI T.nCI_leads (by omega) fun v3 H3 e3 hv3 => ?_
    · refine (ev_lcR (keep := fun _ => true) (f := fun _ => ([] : List Nat)) trD (ea_cons (Ev.lift (M := M0) (ev_arrow_count tr0 (ev_o rfl) (by rw [hid0]; exact c2))) ea_nil) (by have := ok.eight; omega) (fun _ => rfl) (fun _ _ _ _ _ => et_yes) fun _ M' H' le _ _ => ev_lst0 le.tr).eq ?_
      rw [List.filter_eq_self.mpr fun _ _ => rfl, List.map_const', List.length_range]
    · obtain ⟨l', vs, rfl, hl, hvs⟩ := Is.list hv3
      obtain ⟨nl, hl'⟩ := hid_some hl
      have nl1 := dom_no nl
      have nlx : l' ≠ x := fun z => by rw [z, upd_same] at nl1; cases nl1
      rw [upd_ne nlx] at nl1
      obtain ⟨las, rfl, hlas, hla⟩ := las_of hvs
      have nsl : s' ≠ l' := fun z => by rw [← z, hs'] at nl1; cases nl1
      have back : ∀ (G G' : Hp) (o : HO) (a : Addr), Same (upd G x o) G' → a ≠ x → G' a = none → G a = none := fun G G' o a e hx h => by
        cases q : G a with
        | none => rfl
        | some u =>
          rw [e a u (by rw [upd_ne hx]; exact q)] at h
          cases h
      refine k _ s' l' las (keep _ H3 _ e3 fr2) ?_ (e1.free ns1) (e1.free (back H1 H2 _ l' e2 nlx nl1)) ?_ ?_ hlas fun la h => ?_
      · rw [upd_same, ← hF2, ← hF1]
        exact congrArg (fun F => some (HO.ins CI dx F)) instF_new
      · rw [upd_ne nsx]
        exact e3 _ _ (by rw [upd_ne nsx]; exact hs')
      · rw [upd_ne nlx]
        exact hl'
      · have h1 := (hid_some (hla la h))
        have h2 := dom_no h1.1
        have h3 : la ≠ x := fun z => by rw [z, upd_same] at h2; cases h2
        rw [upd_ne h3] at h2 ⊢
        exact ⟨e1.free (back H1 H2 _ la e2 h3 h2), h1.2⟩
end
end Im

namespace Im
open PySem PySem.Spec PyProof.Rows L2
/-! ### the line -/
structure InsA where
  i : Addr
  dx : Addr
  s : Addr
  l : Addr
  las : List Addr
def InsOk (CI : Addr) (G : Hp) (c : Addr) (m : Fc05.Cat) (t : Fc05.Inst) (A : InsA) : Prop := G A.i = some (.ins CI A.dx (instF c A.s A.l)) ∧ G A.s = some (.lst (nv t.size)) ∧ G A.l = some (.lst (A.las.map V.ref)) ∧ A.las.length = m.arrows.length ∧ ∀ f la, A.las[f]? = some la → G la = some (.lst (nv (lead m t f)))
theorem InsOk.fr {CI c : Addr} {G G' : Hp} {m : Fc05.Cat} {t : Fc05.Inst} {A : InsA} (h : InsOk CI G c m t A) (f : ∀ a, a ∈ A.i :: A.s :: A.l :: A.las → ∀ o, G a = some o → G' a = some o) : InsOk CI G' c m t A := by
  obtain ⟨h1, h2, h3, h4, h5⟩ := h
  refine ⟨f _ (by simp) _ h1, f _ (by simp) _ h2, f _ (by simp) _ h3, h4, fun k la hk => f _ ?_ _ (h5 k la hk)⟩
  have := List.mem_of_getElem? hk
  simp [this]
structure Lay where
  c : Addr
  dxc : Addr
  b : Addr
  e : Addr
  d : Addr
  dxl : Addr
  il : Addr
  pl : Addr
  kvs : List (List Key × V)
  ch : V
  pvs : List V
  A : InsA
  B : InsA
def Lay.cells (L : Lay) : List Addr := [L.b, L.e, L.il, L.pl, L.A.s, L.A.l, L.B.s, L.B.l]
def ChO (G : Hp) (ch : V) (way : Option (List Nat)) : Prop := (way = none ∧ ch = .non) ∨ ∃ mp, way = some mp ∧ Is G ch mp
structure LineAt (CC CI CL : Addr) (G : Hp) (ln : Addr) (s : Fc05.St) (n : Nat) (L : Lay) : Prop where
  ln_ : G ln = some (.ins CL L.dxl (lineF L.c L.il L.pl L.ch))
  cat_ : G L.c = some (.ins CC L.dxc (catF s.cat.n L.b L.e L.d))
  b_ : G L.b = some (.lst (nv (s.cat.arrows.map (·.1))))
  e_ : G L.e = some (.lst (nv (s.cat.arrows.map (·.2))))
  d_ : G L.d = some (.dT L.kvs)
  made : Made L.kvs s.cat.makes
  kl : L.kvs.length ≤ n
  il_ : G L.il = some (.lst [.ref L.A.i, .ref L.B.i])
  A_ : InsOk CI G L.c s.cat s.a L.A
  B_ : InsOk CI G L.c s.cat s.b L.B
  pl_ : G L.pl = some (.lst L.pvs)
  ps : IsL G L.pvs s.parts
  chO : ChO G L.ch s.way
  nd : L.cells.Nodup
  sep : ∀ la, la ∈ L.A.las ++ L.B.las → la ∉ L.cells
  inj : ∀ (k k' : Nat) (la : Addr), (L.A.las ++ L.B.las)[k]? = some la → (L.A.las ++ L.B.las)[k']? = some la → k = k' ∨ G la = some (.lst [])
theorem ChO.mono {G G' : Hp} {ch : V} {way : Option (List Nat)} (e : Same G G') (h : ChO G ch way) : ChO G' ch way := by
  rcases h with h | ⟨mp, h1, h2⟩
  · exact .inl h
  · exact .inr ⟨mp, h1, h2.mono e⟩
theorem InsOk.mono {CI c : Addr} {G G' : Hp} {m : Fc05.Cat} {t : Fc05.Inst} {A : InsA} (e : Same G G') (h : InsOk CI G c m t A) : InsOk CI G' c m t A := h.fr fun a _ o q => e a o q
theorem LineAt.mono {CC CI CL ln : Addr} {G G' : Hp} {s : Fc05.St} {n : Nat} {L : Lay} (e : Same G G') (h : LineAt CC CI CL G ln s n L) : LineAt CC CI CL G' ln s n L :=
  ⟨e _ _ h.ln_, e _ _ h.cat_, e _ _ h.b_, e _ _ h.e_, e _ _ h.d_, h.made, h.kl, e _ _ h.il_, h.A_.mono e, h.B_.mono e, e _ _ h.pl_, h.ps.mono e, h.chO.mono e, h.nd, h.sep, fun k k' la h1 h2 => (h.inj k k' la h1 h2).imp id fun q => e _ _ q⟩
/-! ### all new -/
structure Fresh (CC CI CL : Addr) (H H' : Hp) (ln dxl c : Addr) (m : Fc05.Cat) (il pl : Addr) (pvs : List V) (A B : InsA) : Prop where
  fr : ∀ a o, H a = some o → a ≠ ln → H' a = some o
  ln_ : H' ln = some (.ins CL dxl (lineF c il pl .non))
  il_ : H' il = some (.lst [.ref A.i, .ref B.i])
  A_ : InsOk CI H' c m (Fc05.none_ m) A
  B_ : InsOk CI H' c m (Fc05.none_ m) B
  pl_ : H' pl = some (.lst pvs)
  ps : IsL (hid (dom H) H') pvs (List.replicate 8 ([] : List (Nat × Nat)))
  newI : H A.i = none ∧ H B.i = none
  new : ∀ a, a ∈ [il, pl, A.s, A.l, B.s, B.l] ++ (A.las ++ B.las) → H a = none
  nd : [il, pl, A.s, A.l, B.s, B.l].Nodup
def sp_forget_rows (CC CI CL : Addr) : Sp := fun vs H Q _ => ∃ (ln dxl c : Addr) (fs : List (Str × V)) (m : Fc05.Cat), vs = [.ref ln] ∧ H ln = some (.ins CL dxl fs) ∧ fs.length ≤ 10 ∧ fs.lookup ("category" : Str) = some (.ref c) ∧ (∀ il pl, putF "chosen" .non (putF "parts" (.ref pl) (putF "instances" (.ref il) fs)) = lineF c il pl .non) ∧ CatAt CC H c m ∧ CatOk m ∧
  ∀ H' il pl pvs A B, Fresh CC CI CL H H' ln dxl c m il pl pvs A B → Q .non H'
theorem lead_none {m : Fc05.Cat} {f : Nat} : lead m (Fc05.none_ m) f = [] := by
  unfold lead Fc05.none_ Fc05.rows
  split
  · have : (List.map (fun _ => 0) (Fc05.things m)).getD f 0 = 0 := by
      rw [List.getD_eq_getElem?_getD, List.getElem?_map]
      cases (Fc05.things m)[f]? <;> rfl
    rw [this]
    rfl
  · rw [List.getD_eq_getElem?_getD, List.getElem?_map]
    cases (Fc05.all m)[f]? <;> rfl
theorem size_none {m : Fc05.Cat} : (Fc05.none_ m).size = List.replicate m.n 0 := by
  unfold Fc05.none_ Fc05.things
  rw [List.map_const', List.length_range]
structure NewI (CI : Addr) (H H' : Hp) (D c : Addr) (m : Fc05.Cat) (A : InsA) : Prop where
  ok : InsOk CI H' c m (Fc05.none_ m) A
  new : ∀ a, a ∈ A.i :: A.s :: A.l :: A.las → H a = none
  nD : ∀ a, a ∈ A.i :: A.s :: A.l :: A.las → a ≠ D
section
variable {P : Program} {w : World} {K : PySem.W.Frag} {mg : Str → Option Value} {base : Heap} {CC CI CL WN : Addr}
/-- one more instance -/
theorem new_turn {H H3 : Hp} {D c : Addr} {m : Fc05.Cat} {acc : List V} {R : Hp → Prop} (x dx : Addr) (hc : CatAt CC H c m) (ok : CatOk m) (hD : H D = none) (e3 : Same H H3) (h3 : H3 D = some (.lst acc))
    (k : ∀ A H4, A.i = x → Same H3 (upd H4 D (.lst acc)) → H4 D = some (.lst acc) → NewI CI H (upd H4 D (.lst (acc ++ [.ref A.i]))) D c m A → (∀ a, a ∈ A.s :: A.l :: A.las → H3 a = none) → R H4)
    (hx : H3 x = none) (hdx : H3 dx = none) (hne : dx ≠ x) :
    sp_initInstance CC CI CL (.ref x :: ([.ref c] ++ [])) (upd (upd H3 dx (.own x)) x (.ins CI dx [])) (fun v H2 => v = .non ∧ R H2) E0 := by
  have f3 : ∀ a o, H3 a = some o → (upd (upd H3 dx (.own x)) x (.ins CI dx [])) a = some o := fun a o h => by
    rw [upd_ne (ne_of_none h hx), upd_ne (ne_of_none h hdx)]
    exact h
  have b3 : ∀ a, (upd (upd H3 dx (.own x)) x (.ins CI dx [])) a = none → H3 a = none := fun a h => by
    cases q : H3 a with
    | none => rfl
    | some o => rw [f3 a o q] at h; cases h
  refine ⟨x, dx, c, m, rfl, upd_same, hc.mono (e3.trans f3), ok, fun H4 s l las fr hx4 ns nl hs hl hlen hlas => ⟨rfl, ?_⟩⟩
  have hD4 : H4 D = some (.lst acc) := fr D _ (f3 D _ h3) (ne_of_none h3 hx)
  have keep : Same H3 (upd H4 D (.lst acc)) := fun a o h => by
    by_cases q : a = D
    · rw [q, upd_same]
      rw [q, h3] at h
      exact h
    · rw [upd_ne q]
      exact fr a o (f3 a o h) (ne_of_none h hx)
  have nn : ∀ a, a ∈ s :: l :: las → H3 a = none := fun a h => by
    rcases List.mem_cons.mp h with rfl | h
    · exact b3 _ ns
    · rcases List.mem_cons.mp h with rfl | h
      · exact b3 _ nl
      · exact b3 _ (hlas a h).1
  have nD : ∀ a, a ∈ x :: s :: l :: las → a ≠ D := fun a h z => by
    rcases List.mem_cons.mp h with rfl | h
    · rw [z, h3] at hx
      cases hx
    · have := nn a h
      rw [z, h3] at this
      cases this
  refine k ⟨x, dx, s, l, las⟩ H4 rfl keep hD4 ⟨⟨?_, ?_, ?_, hlen, fun f la h => ?_⟩, fun a h => e3.free ((List.mem_cons.mp h).elim (fun z => by rw [z]; exact hx) (nn a)), nD⟩ nn
  · rw [upd_ne (nD x (by simp))]
    exact hx4
  · rw [upd_ne (nD s (by simp)), size_none]
    exact hs
  · rw [upd_ne (nD l (by simp))]
    exact hl
  · have hm := List.mem_of_getElem? h
    rw [upd_ne (nD la (by simp [hm])), lead_none]
    exact (hlas la hm).2
theorem sameD {H H4 : Hp} {D : Addr} {u v : HO} (hD : H D = none) (e : Same H (upd H4 D u)) : Same H (upd H4 D v) := fun a o h => by
  have := e a o h
  rw [upd_ne (ne_of_none h hD)] at this ⊢
  exact this
theorem NewI.on {CI c D : Addr} {H H3 H4 : Hp} {m : Fc05.Cat} {A : InsA} {acc acc' : List V} (h : NewI CI H H3 D c m A) (e : Same H3 (upd H4 D (.lst acc))) : NewI CI H (upd H4 D (.lst acc')) D c m A := by
  refine ⟨h.ok.fr fun a ha o q => ?_, h.new, h.nD⟩
  have := e a o q
  rw [upd_ne (h.nD a ha)] at this ⊢
  exact this
theorem ok_forget_rows {f : Addr} {fd : FuncData} (F : Fun K "forget_rows" "Line.forget_rows" s_forget_rows f fd) (T : Txt K mg CC CI CL WN) (g_initInstance : NewOk P w K mg base CI 2 ["self", "category"] (sp_initInstance CC CI CL)) : FnOk P w K mg base CX0 4 f fd ["self"] (sp_forget_rows CC CI CL) := by
  refine F.ok sc_forget_rows (fun vs H Q E h => ?_) (fun cdv A outer s H vs Q E hr h => ⟨_, (pss_cons (ps_fld (pv 0) (pe_lc (own := [("i", 1)]) (g := gName 1) (tt := tYes) (te := (tMake CI (sp_initInstance CC CI CL) [] E0 (tCons (tFld K (tVar 0) "category") tNil))) rfl sc_forget_rows.nd (pi_range1 (by rfl) T.f_range (pa_cons (pe_gI T.c_INSTANCES rfl) pa_nil)) (blkOk_by (own := [("i", 1)]) (N := ["self", "i", "p"]) (sc := defScope s_forget_rows) (by decide +kernel)) (fun _ _ _ _ _ => pg_name (i := 1) sc_forget_rows.nd rfl (Or.inl rfl)) (fun _ _ _ _ _ => pts_nil) (fun _ _ _ _ _ => (pe_makeD g_initInstance (hr.mono (by decide)) rfl T.gCI (pa_cons (pe_fld (pv 0) rfl) pa_nil)))) rfl)
    (pss_cons (ps_fld (pv 0) (pe_lc (own := [("p", 2)]) (g := gName 2) (tt := tYes) (te := (tLst tNil)) rfl sc_forget_rows.nd (pi_range1 (by rfl) T.f_range (pa_cons (pe_gI T.c_PARTS rfl) pa_nil)) (blkOk_by (own := [("p", 2)]) (N := ["self", "i", "p"]) (sc := defScope s_forget_rows) (by decide +kernel)) (fun _ _ _ _ _ => pg_name (i := 2) sc_forget_rows.nd rfl (Or.inl rfl)) (fun _ _ _ _ _ => pts_nil) (fun _ _ _ _ _ => (pe_lst pa_nil))) rfl)
    (pss_one (ps_fld (pv 0) pe_non rfl)))), ?_⟩)
  · obtain ⟨_, _, _, _, _, rfl, _⟩ := h
    rfl
  · obtain ⟨ln, dxl, c, fs, m, rfl, hln, hfl, hlk, hput, hc, ok, k⟩ := h
    refine ⟨2, rfl, by decide, by decide, fun D hD => ?_⟩
    have e0 : ((2 : Int)).toNat = 2 := rfl
    rw [e0]
    refine lc_range (lo := 0) (n := 2) (fun i H' => Same H H' ∧ (i = 0 → H' D = some (.lst [])) ∧ (i = 1 → ∃ A, H' D = some (.lst [.ref A.i]) ∧ NewI CI H H' D c m A) ∧
      (i = 2 → ∃ A B, H' D = some (.lst [.ref A.i, .ref B.i]) ∧ NewI CI H H' D c m A ∧ NewI CI H H' D c m B ∧ A.s ≠ B.s ∧ A.l ≠ B.l)) ⟨same_new hD, fun _ => upd_same, fun z => by omega, fun z => by omega⟩ ?_ ?_
    · intro i H3 hi ⟨e3, p0, p1, p2⟩
      refine ⟨rfl, ?_⟩
      unfold tYes
      dsimp only
      rw [if_pos rfl]
      refine ⟨.ref ln, rfl, ln, CL, dxl, fs, .ref c, rfl, e3 _ _ hln, T.cCL, T.nCL_category, hlk, ?_⟩
      intro x dx hx hdx hne
      have hacc : i = 0 ∨ i = 1 := by omega
      rcases hacc with rfl | rfl
      · refine new_turn (acc := []) x dx hc ok hD e3 (p0 rfl) (fun A H4 hxi keep h4 nw nn => ?_) hx hdx hne
        subst hxi
        exact ⟨[], h4, by decide, sameD hD (e3.trans keep), fun z => by omega, fun _ => ⟨A, upd_same, nw⟩, fun z => by omega⟩
      · obtain ⟨A, hA, nA⟩ := p1 rfl
        refine new_turn (acc := [.ref A.i]) x dx hc ok hD e3 hA (fun B H4 hxi keep h4 nw nn => ?_) hx hdx hne
        subst hxi
        refine ⟨[.ref A.i], h4, (by show 1 < sizeLine; decide), sameD hD (e3.trans keep), fun z => by omega, fun z => by omega, fun _ => ⟨A, B, upd_same, nA.on keep, nw, ?_, ?_⟩⟩
        · intro z
          have := nn B.s (by simp)
          rw [← z, nA.ok.2.1] at this
          cases this
        · intro z
          have := nn B.l (by simp)
          rw [← z, nA.ok.2.2.1] at this
          cases this
    · intro H1 ⟨e1, _, _, p2⟩
      obtain ⟨A, B, hD1, nA, nB, nab, nabl⟩ := p2 rfl
      have hnD : ln ≠ D := ne_of_none hln hD
      refine ⟨.ref ln, rfl, ln, CL, dxl, fs, rfl, e1 _ _ hln, T.cCL, T.nCL_instances, by omega, ?_⟩
      generalize hF1 : putF "instances" (.ref D) fs = F1
      have l1 : F1.length ≤ 11 := by have := putF_len (f := "instances") (v := .ref D) (fs := fs); rw [hF1] at this; omega
      generalize hG1 : upd H1 ln (.ins CL dxl F1) = G1
      have g1 : ∀ a o, H1 a = some o → a ≠ ln → G1 a = some o := fun a o h hx => by rw [← hG1, upd_ne hx]; exact h
      have g1ln : G1 ln = some (.ins CL dxl F1) := by rw [← hG1]; exact upd_same
      refine s_fldS (M := dom G1) (P := .is (List.replicate 8 ([] : List (Nat × Nat)))) ((ev_lcR (n := 8) (keep := fun _ => true) (f := fun _ => ([] : List (Nat × Nat))) trD (ea_cons (ev_cn (n := 8)) ea_nil) (by decide) (fun _ => rfl) (fun _ _ _ _ _ => et_yes) fun _ M' H' le _ _ => ev_lst0 le.tr).eq (by decide)) rfl g1ln T.cCL T.nCL_parts (by omega) fun v2 H2 e2 hv2 => ?_
      obtain ⟨pl', pvs, rfl, hp, hps⟩ := Is.list hv2
      obtain ⟨np, hp'⟩ := hid_some hp
      have np1 := dom_no np
      have npl : pl' ≠ ln := fun z => by rw [z, g1ln] at np1; cases np1
      generalize hF2 : putF "parts" (.ref pl') F1 = F2
      have l2 : F2.length ≤ 12 := by have := putF_len (f := "parts") (v := .ref pl') (fs := F1); rw [hF2] at this; omega
      refine s_fld (M := M0) (P := .val .non) (ev_c rfl) rfl upd_same T.cCL T.nCL_chosen (by omega) fun v3 H3 e3 hv3 => ?_
      obtain rfl : v3 = .non := hv3
      -- what was there at H1 (but the line) is there at the end
      have fin : ∀ a o, H1 a = some o → a ≠ ln → upd H3 ln (.ins CL dxl (putF "chosen" .non F2)) a = some o := fun a o h hx => by
        rw [upd_ne hx]
        exact e3 _ _ (by rw [upd_ne hx]; exact e2 _ _ (g1 a o h hx))
      have lnk : ∀ {A : InsA}, NewI CI H H1 D c m A → InsOk CI (upd H3 ln (.ins CL dxl (putF "chosen" .non F2))) c m (Fc05.none_ m) A := fun {A} h => h.ok.fr fun a ha o q => fin a o q fun z => by
        have := h.new a ha
        rw [z, hln] at this
        cases this
      have pfin : ∀ a, G1 a = none → a ≠ ln → H1 a = none := fun a h hx => by
        cases q : H1 a with
        | none => rfl
        | some o => rw [g1 a o q hx] at h; cases h
      have npH := pfin pl' np1 npl
      have same2 : Same (hid (dom G1) H2) (upd H3 ln (.ins CL dxl (putF "chosen" .non F2))) := fun a o h => by
        obtain ⟨q1, q2⟩ := hid_some h
        have hx : a ≠ ln := fun z => by
          have := dom_no q1
          rw [z, g1ln] at this
          cases this
        rw [upd_ne hx]
        exact e3 _ _ (by rw [upd_ne hx]; exact q2)
      have same3 : Same (hid (dom G1) H2) (hid (dom H) (upd H3 ln (.ins CL dxl (putF "chosen" .non F2)))) := fun a o h => by
        have q1 := (hid_some h).1
        have hx : a ≠ ln := fun z => by
          have := dom_no q1
          rw [z, g1ln] at this
          cases this
        have q2 : ¬ dom H a := fun z => z (e1.free (pfin a (dom_no q1) hx))
        rw [hid_no q2]
        exact same2 a o h
      refine k _ D pl' pvs A B ⟨fun a o h hx => fin a o (e1 _ _ h) hx, ?_, fin D _ hD1 (Ne.symm hnD), lnk nA, lnk nB, same2 _ _ hp, hps.mono same3, ⟨nA.new _ (by simp), nB.new _ (by simp)⟩, ?_, ?_⟩
      · rw [upd_same, ← hF2, ← hF1, hput]
      · intro a ha
        simp only [List.mem_append, List.mem_cons, List.not_mem_nil, or_false] at ha
        rcases ha with (rfl | rfl | rfl | rfl | rfl | rfl) | h | h
        · exact hD
        · exact e1.free npH
        · exact nA.new _ (by simp)
        · exact nA.new _ (by simp)
        · exact nB.new _ (by simp)
        · exact nB.new _ (by simp)
        · exact nA.new _ (by simp [h])
        · exact nB.new _ (by simp [h])
      · have ne0 : A.s ≠ A.l ∧ A.s ≠ B.l ∧ B.s ≠ A.l ∧ B.s ≠ B.l := by
          have sz : ∀ {A B : InsA}, NewI CI H H1 D c m A → NewI CI H H1 D c m B → A.s ≠ B.l := fun {A B} hA hB z => by
            have h1 := hA.ok.2.1
            rw [z, hB.ok.2.2.1, size_none] at h1
            injection h1 with h1
            injection h1 with h1
            have h2 := hB.ok.2.2.2.1
            have h3 := ok.pos
            have h4 := ok.nle
            match B.las, h2, h1 with
            | [], h2, h1 => simp at h2; omega
            | la :: r, h2, h1 =>
              obtain ⟨n', hn'⟩ : ∃ n', m.n = n' + 1 := ⟨m.n - 1, by omega⟩
              rw [hn', List.replicate_succ] at h1
              simp at h1
          exact ⟨sz nA nA, sz nA nB, sz nB nA, sz nB nB⟩
        have pn : ∀ a, a ∈ A.i :: A.s :: A.l :: A.las → pl' ≠ a := fun a h z => by
          have h1 : a ∈ A.i :: A.s :: A.l :: A.las := h
          rcases List.mem_cons.mp h with rfl | h
          · rw [z, nA.ok.1] at npH
            cases npH
          · rcases List.mem_cons.mp h with rfl | h
            · rw [z, nA.ok.2.1] at npH
              cases npH
            · rcases List.mem_cons.mp h with rfl | h
              · rw [z, nA.ok.2.2.1] at npH
                cases npH
              · obtain ⟨f, hf⟩ := List.getElem?_of_mem h
                rw [z, nA.ok.2.2.2.2 f a hf] at npH
                cases npH
        have pn' : ∀ a, a ∈ B.i :: B.s :: B.l :: B.las → pl' ≠ a := fun a h z => by
          rcases List.mem_cons.mp h with rfl | h
          · rw [z, nB.ok.1] at npH
            cases npH
          · rcases List.mem_cons.mp h with rfl | h
            · rw [z, nB.ok.2.1] at npH
              cases npH
            · rcases List.mem_cons.mp h with rfl | h
              · rw [z, nB.ok.2.2.1] at npH
                cases npH
              · obtain ⟨f, hf⟩ := List.getElem?_of_mem h
                rw [z, nB.ok.2.2.2.2 f a hf] at npH
                cases npH
        have dp : D ≠ pl' := fun z => by rw [← z, hD1] at npH; cases npH
        have a1 := nA.nD A.s (by simp)
        have a2 := nA.nD A.l (by simp)
        have b1 := nB.nD B.s (by simp)
        have b2 := nB.nD B.l (by simp)
        have p1 := pn A.s (by simp)
        have p2 := pn A.l (by simp)
        have p3 := pn' B.s (by simp)
        have p4 := pn' B.l (by simp)
        simp only [List.nodup_cons, List.mem_cons, List.not_mem_nil, or_false, not_or, not_false_eq_true, List.nodup_nil, and_true]
        exact ⟨⟨dp, Ne.symm a1, Ne.symm a2, Ne.symm b1, Ne.symm b2⟩, ⟨p1, p2, p3, p4⟩, ⟨ne0.1, nab, ne0.2.1⟩, ⟨Ne.symm ne0.2.2.1, nabl⟩, ne0.2.2.2⟩
end
end Im

namespace Im
open PySem PySem.Spec PyProof.Rows L2
/-- from all new: the line as it is emptied -/
theorem fresh_line {CC CI CL : Addr} {M : Addr → Prop} {Hc H' : Hp} {ln dxl c dxc b e d il pl : Addr} {m : Fc05.Cat} {pvs : List V} {A B : InsA} {kvs : List (List Key × V)} {n : Nat} (F : Fresh CC CI CL Hc H' ln dxl c m il pl pvs A B) (ok : CatOk m) (hM : Tr M Hc) (mln : ¬ M ln)
    (hc : Hc c = some (.ins CC dxc (catF m.n b e d))) (hb : Hc b = some (.lst (nv (m.arrows.map (·.1))))) (he : Hc e = some (.lst (nv (m.arrows.map (·.2))))) (hd : Hc d = some (.dT kvs)) (mc : ¬ M c) (mb : ¬ M b) (me : ¬ M e) (md : ¬ M d) (hm : Made kvs m.makes) (hk : kvs.length ≤ n) (hbe : b ≠ e) (hcl : c ≠ ln) {u : HO} (hln : Hc ln = some u) (hu : ∀ xs, u ≠ .lst xs) (hu' : ∀ k, u ≠ .dT k) :
    LineAt CC CI CL (hid M H') ln (Fc05.emptied m) n ⟨c, dxc, b, e, d, dxl, il, pl, kvs, .non, pvs, A, B⟩ := by
  have hbl : b ≠ ln := ne_of hb hln fun z => hu _ z.symm
  have hel : e ≠ ln := ne_of he hln fun z => hu _ z.symm
  have hdl : d ≠ ln := ne_of hd hln fun z => hu' _ z.symm
  have hb' := F.fr b _ hb hbl
  have he' := F.fr e _ he hel
  have nb : ∀ a, a ∈ [il, pl, A.s, A.l, B.s, B.l] ++ (A.las ++ B.las) → b ≠ a := fun a h => ne_of_none hb (F.new a h)
  have ne : ∀ a, a ∈ [il, pl, A.s, A.l, B.s, B.l] ++ (A.las ++ B.las) → e ≠ a := fun a h => ne_of_none he (F.new a h)
  have nM : ∀ a, a ∈ [il, pl, A.s, A.l, B.s, B.l] ++ (A.las ++ B.las) → ¬ M a := fun a h => hM.new (F.new a h)
  have len8 := F.ps.length
  rw [List.length_replicate] at len8
  have pos := ok.pos
  have nle := ok.nle
  have insA : InsOk CI (hid M H') c m (Fc05.none_ m) A := F.A_.fr fun a ha o q => by
    have : ¬ M a := by
      rcases List.mem_cons.mp ha with rfl | ha
      · exact hM.new F.newI.1
      · refine nM a ?_
        simp only [List.mem_cons] at ha
        simp only [List.mem_append, List.mem_cons]
        rcases ha with h | h | h
        · exact .inl (.inr (.inr (.inl h)))
        · exact .inl (.inr (.inr (.inr (.inl h))))
        · exact .inr (.inl h)
    rw [hid_no this]
    exact q
  have insB : InsOk CI (hid M H') c m (Fc05.none_ m) B := F.B_.fr fun a ha o q => by
    have : ¬ M a := by
      rcases List.mem_cons.mp ha with rfl | ha
      · exact hM.new F.newI.2
      · refine nM a ?_
        simp only [List.mem_cons] at ha
        simp only [List.mem_append, List.mem_cons]
        rcases ha with h | h | h
        · exact .inl (.inr (.inr (.inr (.inr (.inl h)))))
        · exact .inl (.inr (.inr (.inr (.inr (.inr (.inl h))))))
        · exact .inr (.inr h)
    rw [hid_no this]
    exact q
  have emp : ∀ la, la ∈ A.las ++ B.las → hid M H' la = some (.lst []) := fun la h => by
    rcases List.mem_append.mp h with h | h
    · obtain ⟨f, hf⟩ := List.getElem?_of_mem h
      have := insA.2.2.2.2 f la hf
      rw [lead_none] at this
      exact this
    · obtain ⟨f, hf⟩ := List.getElem?_of_mem h
      have := insB.2.2.2.2 f la hf
      rw [lead_none] at this
      exact this
  have sl : ∀ {A : InsA}, InsOk CI (hid M H') c m (Fc05.none_ m) A → ∀ la, hid M H' la = some (.lst []) → la ≠ A.s ∧ la ≠ A.l := fun {A} h la q => by
    refine ⟨fun z => ?_, fun z => ?_⟩
    · rw [z, h.2.1, size_none] at q
      injection q with q
      injection q with q
      have := congrArg List.length q
      simp at this
      omega
    · rw [z, h.2.2.1] at q
      injection q with q
      injection q with q
      have := congrArg List.length q
      rw [List.length_map, h.2.2.2.1] at this
      simp at this
      rw [this] at nle
      simp at nle
      omega
  have il' : hid M H' il = some (.lst [.ref A.i, .ref B.i]) := by rw [hid_no (nM il (by simp))]; exact F.il_
  have pl' : hid M H' pl = some (.lst pvs) := by rw [hid_no (nM pl (by simp))]; exact F.pl_
  have sameD : Same (hid (dom Hc) H') (hid M H') := fun a o h => by
    obtain ⟨q1, q2⟩ := hid_some h
    rw [hid_no fun z => q1 (hM a z)]
    exact q2
  refine ⟨by rw [hid_no mln]; exact F.ln_, by rw [hid_no mc]; exact F.fr c _ hc hcl, by rw [hid_no mb]; exact hb', by rw [hid_no me]; exact he', by rw [hid_no md]; exact F.fr d _ hd hdl, hm, hk, il', insA, insB, pl', F.ps.mono sameD, .inl ⟨rfl, rfl⟩, ?_, fun la h => ?_, fun k k' la h1 _ => .inr (emp la (List.mem_of_getElem? h1))⟩
  · show [b, e, il, pl, A.s, A.l, B.s, B.l].Nodup
    rw [List.nodup_cons, List.nodup_cons]
    refine ⟨?_, ?_, F.nd⟩
    · intro h
      rcases List.mem_cons.mp h with h | h
      · exact hbe h
      · exact nb b (List.mem_append_left _ h) rfl
    · intro h
      exact ne e (List.mem_append_left _ h) rfl
  · have hla := emp la h
    have n1 := nb la (List.mem_append_right _ h)
    have n2 := ne la (List.mem_append_right _ h)
    have n3 : la ≠ il := fun z => by rw [z, il'] at hla; cases hla
    have n4 : la ≠ pl := fun z => by
      rw [z, pl'] at hla
      injection hla with hla
      injection hla with hla
      rw [hla] at len8
      cases len8
    obtain ⟨n5, n6⟩ := sl insA la hla
    obtain ⟨n7, n8⟩ := sl insB la hla
    show la ∉ [b, e, il, pl, A.s, A.l, B.s, B.l]
    simp only [List.mem_cons, List.not_mem_nil, or_false, not_or]
    exact ⟨Ne.symm n1, Ne.symm n2, n3, n4, n5, n6, n7, n8⟩
theorem lineF_new {c il pl : Addr} : putF "chosen" .non (putF "parts" (.ref pl) (putF "instances" (.ref il) (putF "category" (.ref c) []))) = lineF c il pl .non := by
  have h1 : putF "category" (.ref c) [] = [(("category" : Str), V.ref c)] := rfl
  rw [h1, put_past (f := "instances") (g := "category") (by decide +kernel)]
  have h2 : putF "instances" (.ref il) [] = [(("instances" : Str), V.ref il)] := rfl
  rw [h2, put_past (f := "parts") (g := "category") (by decide +kernel), put_past (f := "parts") (g := "instances") (by decide +kernel)]
  have h3 : putF "parts" (.ref pl) [] = [(("parts" : Str), V.ref pl)] := rfl
  rw [h3, put_past (f := "chosen") (g := "category") (by decide +kernel), put_past (f := "chosen") (g := "instances") (by decide +kernel), put_past (f := "chosen") (g := "parts") (by decide +kernel)]
  rfl
theorem lineF_again {c il pl il' pl' : Addr} {ch : V} : putF "chosen" .non (putF "parts" (.ref pl) (putF "instances" (.ref il) (lineF c il' pl' ch))) = lineF c il pl .non := by
  unfold lineF
  rw [put_past (f := "instances") (g := "category") (by decide +kernel), put_here, put_past (f := "parts") (g := "category") (by decide +kernel), put_past (f := "parts") (g := "instances") (by decide +kernel), put_here,
    put_past (f := "chosen") (g := "category") (by decide +kernel), put_past (f := "chosen") (g := "instances") (by decide +kernel), put_past (f := "chosen") (g := "parts") (by decide +kernel), put_here]
theorem lineF_cat {c c' il pl : Addr} {ch : V} : putF "category" (.ref c') (lineF c il pl ch) = lineF c' il pl ch := put_here
theorem lineF_ch {c il pl : Addr} {ch ch' : V} : putF "chosen" ch' (lineF c il pl ch) = lineF c il pl ch' := by
  unfold lineF
  rw [put_past (f := "chosen") (g := "category") (by decide +kernel), put_past (f := "chosen") (g := "instances") (by decide +kernel), put_past (f := "chosen") (g := "parts") (by decide +kernel), put_here]
theorem lkCat {c il pl : Addr} {ch : V} : (lineF c il pl ch).lookup ("category" : Str) = some (V.ref c) := lk_here
theorem lkIns {c il pl : Addr} {ch : V} : (lineF c il pl ch).lookup ("instances" : Str) = some (V.ref il) := (lk_past (by decide +kernel)).trans lk_here
theorem lkPar {c il pl : Addr} {ch : V} : (lineF c il pl ch).lookup ("parts" : Str) = some (V.ref pl) := (lk_past (by decide +kernel)).trans ((lk_past (by decide +kernel)).trans lk_here)
theorem lkCho {c il pl : Addr} {ch : V} : (lineF c il pl ch).lookup ("chosen" : Str) = some ch := (lk_past (by decide +kernel)).trans ((lk_past (by decide +kernel)).trans ((lk_past (by decide +kernel)).trans lk_here))
theorem catOk_begin {n : Nat} (h1 : 1 ≤ n) (h3 : n ≤ 3) : CatOk (Fc05.begin_ n) := by
  have hl : (Fc05.begin_ n).arrows.length = n := by show ((List.range n).map fun x => (x, x)).length = n; rw [List.length_map, List.length_range]
  refine ⟨h1, h3, by rw [hl]; omega, by rw [hl]; exact Nat.le_refl _, fun f hf => ?_, fun a ha => ?_, fun x hx => nomatch hx⟩
  · show ((List.range n).map fun x => (x, x))[f]? = some (f, f)
    rw [List.getElem?_map, List.getElem?_range (show f < n from hf)]
    rfl
  · obtain ⟨x, h, rfl⟩ := List.mem_map.mp (show a ∈ (List.range n).map fun x => (x, x) from ha)
    have := List.mem_range.mp h
    exact ⟨this, this⟩
theorem begin_maps (n : Nat) : (Fc05.begin_ n).arrows.map (·.1) = List.range n ∧ (Fc05.begin_ n).arrows.map (·.2) = List.range n := by
  unfold Fc05.begin_
  constructor <;> rw [List.map_map] <;> exact List.map_id' _
def sp_initLine (CC CI CL : Addr) : Sp := fun vs H Q _ => ∃ (M : Addr → Prop) (x dx : Addr), vs = [.ref x] ∧ H x = some (.ins CL dx []) ∧ Tr M H ∧ ¬ M x ∧
  ∀ H' L, (∀ a o, H a = some o → a ≠ x → H' a = some o) → LineAt CC CI CL (hid M H') x Fc05.init 0 L → Q .non H'
def sp_forget_parts (CC CI CL : Addr) : Sp := fun vs H Q _ => ∃ (ln dx c il pl : Addr) (ch : V) (pvs : List V) (i : Nat), vs = [.ref ln, .int i] ∧ H ln = some (.ins CL dx (lineF c il pl ch)) ∧ H pl = some (.lst pvs) ∧ pvs.length = 8 ∧ i < 2 ∧
  ∀ H' pvs', (∀ a o, H a = some o → a ≠ ln → a ≠ pl → H' a = some o) → H' ln = some (.ins CL dx (lineF c il pl .non)) → H' pl = some (.lst pvs') → pvs'.length = 8 → (∀ p v, pvs'[p]? = some v → (p / 4 = i ∧ ∃ q, v = .ref q ∧ H' q = some (.lst []) ∧ H q = none) ∨ (p / 4 ≠ i ∧ pvs[p]? = some v)) → Q .non H'
def sp_has_instance (CC CI CL : Addr) : Sp := SpP fun vs G P => ∃ (ln : Addr) (i : Nat), vs = [.ref ln, .int i] ∧ P = .is (decide (i < 2))
def sp_is_part_of (CC CI CL : Addr) : Sp := SpP fun vs G P => ∃ (ln : Addr) (p i : Nat), vs = [.ref ln, .int p, .int i] ∧ P = .is (decide (p / 4 = i))
def shareB (ns : List Nat) : Bool := ns.all fun p => !(decide (8 ≤ p) || !decide (p / 4 = ns.headD 0 / 4))
def sp_share_instance (CC CI CL : Addr) : Sp := SpP fun vs G P => ∃ (ln : Addr) (ns : List Nat) (v : V), vs = [.ref ln, v] ∧ Is G v ns ∧ ns ≠ [] ∧ P = .is (shareB ns)
def sp_instance_of (CC CI CL : Addr) : Sp := SpP fun vs G P => ∃ (ln dx c il pl i0 i1 : Addr) (ch : V) (p : Nat), vs = [.ref ln, .int p] ∧ G ln = some (.ins CL dx (lineF c il pl ch)) ∧ G il = some (.lst [.ref i0, .ref i1]) ∧ p < 8 ∧ P = .val (.ref (if p < 4 then i0 else i1))
theorem ev_fdiv {K : PySem.W.Frag} {M : Addr → Prop} {σ : L2.St} {H : Hp} {ta : TE} {m : Nat} (ha : Ev M ta σ H (.is m)) : Ev M (tOp (rI CDiv fun i j => .int (i / j)) ta (tC (.int 4))) σ H (.is (m / 4)) :=
  fun H1 e Q q => ha H1 e _ fun w H2 e2 hw => by
    obtain rfl := Is.nat hw
    refine ⟨_, 4, rfl, rfl, ⟨by decide, by decide⟩, ?_⟩
    have e4 : ((m : Int) / 4) = ((m / 4 : Nat) : Int) := by omega
    show Q (.int ((m : Int) / 4)) H2
    rw [e4]
    exact q _ H2 e2 is_nat
section
variable {P : Program} {w : World} {K : PySem.W.Frag} {mg : Str → Option Value} {base : Heap} {CC CI CL WN : Addr}
theorem ok_has_instance {f : Addr} {fd : FuncData} (F : Fun K "has_instance" "Line.has_instance" s_has_instance f fd) (T : Txt K mg CC CI CL WN) : FnOk P w K mg base CX0 1 f fd ["self", "i"] (sp_has_instance CC CI CL) := by
  refine F.ok sc_has_instance (fun vs H Q E h => ?_) (fun cdv A outer s H vs Q E hr h => ⟨_, (pss_one (ps_ret (pe_cmpR op_lt (pv 1) (pe_gI T.c_INSTANCES rfl) (nomark _)))), ?_⟩)
  · obtain ⟨_, _, _, ⟨_, _, rfl, _⟩, _⟩ := h
    rfl
  · obtain ⟨M, P, hM, ⟨ln, i, rfl, rfl⟩, k⟩ := h
    exact s_rk k (Same.refl _) (ev_lt (ev_n rfl) (ev_cn (n := 2)))
theorem ok_is_part_of {f : Addr} {fd : FuncData} (F : Fun K "is_part_of" "Line.is_part_of" s_is_part_of f fd) (T : Txt K mg CC CI CL WN) : FnOk P w K mg base CX0 1 f fd ["self", "p", "i"] (sp_is_part_of CC CI CL) := by
  refine F.ok sc_is_part_of (fun vs H Q E h => ?_) (fun cdv A outer s H vs Q E hr h => ⟨_, (pss_one (ps_ret (pe_cmpR op_eq (pe_op op_fdiv (pv 1) (pe_gI T.c_PARTS_OF_EACH rfl)) (pv 2) (nomark _)))), ?_⟩)
  · obtain ⟨_, _, _, ⟨_, _, _, rfl, _⟩, _⟩ := h
    rfl
  · obtain ⟨M, P, hM, ⟨ln, p, i, rfl, rfl⟩, k⟩ := h
    exact s_rk k (Same.refl _) (ev_eqN (ev_fdiv (K := K) (ev_n rfl)) (ev_n rfl))
theorem ok_share_instance {f : Addr} {fd : FuncData} (F : Fun K "share_instance" "Line.share_instance" s_share_instance f fd) (T : Txt K mg CC CI CL WN) : FnOk P w K mg base CX0 1 f fd ["self", "numbers"] (sp_share_instance CC CI CL) := by
  refine F.ok sc_share_instance (fun vs H Q E h => ?_) (fun cdv A outer s H vs Q E hr h => ⟨_, (pss_cons (ps_for PassesOwn.never rfl (pi_list (pv 1)) (pg_name (i := 2) sc_share_instance.nd rfl (Or.inl rfl)) (pss_one (ps_if (PW.pt (pw_or (pt_cmpR op_ge (pv 2) (pe_gI T.c_PARTS rfl) (nomark _)) (pw_or1 (pt_cmpR op_ne (pe_op op_fdiv (pv 2) (pe_gI T.c_PARTS_OF_EACH rfl)) (pe_op op_fdiv (pe_ix ix_list (pv 1) pe_int (fun _ _ => rfl)) (pe_gI T.c_PARTS_OF_EACH rfl)) (nomark _))))) (pss_one (ps_ret pe_bl)) pss_nil)))
    (pss_one (ps_ret pe_bl))), ?_⟩)
  · obtain ⟨_, _, _, ⟨_, _, _, rfl, _⟩, _⟩ := h
    rfl
  · obtain ⟨M, P, hM, ⟨ln, ns, v, rfl, hv, hne, rfl⟩, k⟩ := h
    obtain ⟨n0, r, rfl⟩ : ∃ n0 r, ns = n0 :: r := by
      cases ns with
      | nil => exact absurd rfl hne
      | cons a r => exact ⟨a, r, rfl⟩
    refine s_forPS (M := M) (src := n0 :: r) (ev_d rfl hv) (fun j σ' => (∃ y, σ' = [some (.ref ln), some v, y]) ∧ ((n0 :: r).take j).all (fun p => !(decide (8 ≤ p) || !decide (p / 4 = n0 / 4))) = true) ⟨⟨_, rfl⟩, rfl⟩ ?_ ?_
    · rintro j p vp σ' H1 N e1 hp ⟨⟨y, rfl⟩, hall⟩ hvp nx
      obtain rfl := Is.nat hvp
      refine s_if (et_or (et_test (M := M) (ev_ge (ev_n rfl) (ev_cn (n := 8)))) fun _ => et_test (M := M) (ev_neN (ev_fdiv (K := K) (ev_n rfl)) (ev_fdiv (K := K) (ev_ixL (ev_d rfl (Is.mono (hid_mono e1) hv)) (ev_cn (n := 0)) rfl)))) (fun hb H2 e2 => ?_) fun hb H2 e2 => ?_
      · refine s_rk k (e1.trans e2) ((ev_c (P := .is false) is_bool).eq ?_)
        symm
        unfold shareB
        rw [List.all_eq_false]
        exact ⟨p, List.mem_of_getElem? hp, by show ¬ (!(decide (8 ≤ p) || !decide (p / 4 = n0 / 4))) = true; rw [hb]; exact Bool.false_ne_true⟩
      · refine nx _ _ ⟨⟨_, rfl⟩, ?_⟩ e2
        rw [tk_more hp, List.all_append, hall, List.all_cons, hb]
        rfl
    · rintro σ' H1 e1 ⟨⟨y, rfl⟩, hall⟩
      rw [List.take_length] at hall
      exact s_rk k e1 ((ev_c (P := .is true) is_bool).eq hall.symm)
theorem ok_instance_of {f : Addr} {fd : FuncData} (F : Fun K "instance_of" "Line.instance_of" s_instance_of f fd) (T : Txt K mg CC CI CL WN) : FnOk P w K mg base CX0 1 f fd ["self", "p"] (sp_instance_of CC CI CL) := by
  refine F.ok sc_instance_of (fun vs H Q E h => ?_) (fun cdv A outer s H vs Q E hr h => ⟨_, (pss_one (ps_ret (pe_ix ix_list (pe_fld (pv 0) rfl) (pe_op op_fdiv (pv 1) (pe_gI T.c_PARTS_OF_EACH rfl)) (fun _ _ => rfl)))), ?_⟩)
  · obtain ⟨_, _, _, ⟨_, _, _, _, _, _, _, _, _, rfl, _⟩, _⟩ := h
    rfl
  · obtain ⟨M, P, hM, ⟨ln, dx, c, il, pl', i0, i1, ch, p, rfl, hln, hil, hp, rfl⟩, k⟩ := h
    have e4 : ((p : Int) / 4) = ((p / 4 : Nat) : Int) := by omega
    refine ⟨.ref ln, rfl, ln, CL, dx, _, .ref il, rfl, hid_sub _ _ hln, T.cCL, T.nCL_instances, lkIns, .int p, rfl, (p : Int), 4, rfl, rfl, ⟨by decide, by decide⟩, il, [.ref i0, .ref i1], (p : Int) / 4, .ref (if p < 4 then i0 else i1), rfl, rfl, SqL.of (hid_sub _ _ hil), ?_, k _ H (Same.refl H) rfl⟩
    rw [e4]
    refine atI_nat ?_
    by_cases q : p < 4
    · rw [if_pos q, show p / 4 = 0 by omega]
      rfl
    · rw [if_neg q, show p / 4 = 1 by omega]
      rfl
theorem ok_initLine {f : Addr} {fd : FuncData} (F : Fun K "__init__" "Line.__init__" s_initLine f fd) (T : Txt K mg CC CI CL WN) (g_forget_rows : MetOk P w K mg base CL 4 "forget_rows" ["self"] (sp_forget_rows CC CI CL)) (g_initCategory : NewOk P w K mg base CC 1 ["self", "things"] (sp_initCategory CC CI CL)) : FnOk P w K mg base CX0 5 f fd ["self"] (sp_initLine CC CI CL) := by
  refine F.ok sc_initLine (fun vs H Q E h => ?_) (fun cdv A outer s H vs Q E hr h => ⟨_, (pss_cons (ps_fld (pv 0) (pe_makeD g_initCategory (hr.mono (by decide)) rfl T.gCC (pa_cons pe_int pa_nil)) rfl)
    (pss_one (ps_expr (pe_methD0 (pv 0) T.cCL g_forget_rows (hr.mono (by decide)))))), ?_⟩)
  · obtain ⟨_, _, _, rfl, _⟩ := h
    rfl
  · obtain ⟨M, x, dx, rfl, hx, hM, mx, k⟩ := h
    intro c dxc nc ndc nec
    have hx1 : (upd (upd H dxc (.own c)) c (.ins CC dxc [])) x = some (.ins CL dx []) := by
      rw [upd_ne (ne_of_none hx nc), upd_ne (ne_of_none hx ndc)]
      exact hx
    refine ⟨c, dxc, 1, rfl, upd_same, by decide, fun H1 b e d fr hc hb0 he0 hd0 hbe hb he hd => ⟨rfl, ?_⟩⟩
    have ncx : c ≠ x := fun z => by rw [z, hx] at nc; cases nc
    have hx2 := fr x _ hx1 (Ne.symm ncx)
    refine ⟨.ref x, rfl, x, CL, dx, [], rfl, hx2, T.cCL, T.nCL_category, by decide, ?_⟩
    generalize hG : upd H1 x (.ins CL dx (putF "category" (.ref c) [])) = G1
    have gx : G1 x = some (.ins CL dx (putF "category" (.ref c) [])) := by rw [← hG]; exact upd_same
    have g1 : ∀ a o, H1 a = some o → a ≠ x → G1 a = some o := fun a o h hx => by rw [← hG, upd_ne hx]; exact h
    have hc1 := g1 c _ hc ncx
    have hb1 := g1 b _ hb (ne_of hb hx2 fun z => nomatch z)
    have he1 := g1 e _ he (ne_of he hx2 fun z => nomatch z)
    have hd1 := g1 d _ hd (ne_of hd hx2 fun z => nomatch z)
    have fH : ∀ a o, H a = some o → (upd (upd H dxc (.own c)) c (.ins CC dxc [])) a = some o := fun a o h => by
      rw [upd_ne (ne_of_none h nc), upd_ne (ne_of_none h ndc)]
      exact h
    have bk : ∀ a, (upd (upd H dxc (.own c)) c (.ins CC dxc [])) a = none → H a = none := fun a h => by
      cases q : H a with
      | none => rfl
      | some o => rw [fH a o q] at h; cases h
    have trG : Tr M G1 := fun a m z => by
      cases q : H a with
      | none => exact hM a m q
      | some o =>
        have hax : a ≠ x := fun w => mx (by rw [← w]; exact m)
        rw [g1 a o (fr a o (fH a o q) (ne_of_none q nc)) hax] at z
        cases z
    have ok := catOk_begin (n := 1) (by decide) (by decide)
    obtain ⟨m1, m2⟩ := begin_maps 1
    have hmade : Made [] (Fc05.begin_ 1).makes := fun f g => rfl
    refine ⟨.ref x, rfl, x, dx, _, rfl, gx, rfl, ?_⟩
    refine ⟨x, dx, c, _, Fc05.begin_ 1, rfl, gx, ?_, lk_here, fun il pl => lineF_new, ⟨dxc, b, e, d, [], hc1, ?_, ?_, hd1, hmade⟩, ok, fun H' il pl pvs A B F => ?_⟩
    · have := putF_len (f := "category") (v := .ref c) (fs := [])
      simp at this
      omega
    · rw [m1]
      exact is_nv hb1
    · rw [m2]
      exact is_nv he1
    · refine k H' _ (fun a o h hx' => ?_) (fresh_line (n := 0) F ok trG mx hc1 (by rw [m1]; exact hb1) (by rw [m2]; exact he1) hd1 (hM.new nc) (hM.new (bk b hb0)) (hM.new (bk e he0)) (hM.new (bk d hd0)) hmade (Nat.le_refl _) hbe ncx gx (fun _ z => nomatch z) fun _ z => nomatch z)
      have h1 : (upd (upd H dxc (.own c)) c (.ins CC dxc [])) a = some o := by
        rw [upd_ne (ne_of_none h nc), upd_ne (ne_of_none h ndc)]
        exact h
      exact F.fr a o (g1 a o (fr a o h1 (ne_of_none h nc)) hx') hx'
end
end Im

namespace Im
open PySem PySem.Spec PyProof.Rows L2
theorem getElem_set {α : Type} {l : List α} {i j : Nat} {x y : α} (h : (l.set i x)[j]? = some y) : (j = i ∧ y = x) ∨ (j ≠ i ∧ l[j]? = some y) := by
  by_cases q : j = i
  · subst q
    by_cases hl : j < l.length
    · rw [List.getElem?_set_self hl] at h
      exact .inl ⟨rfl, (Option.some.inj h).symm⟩
    · rw [List.getElem?_eq_none (by rw [List.length_set]; omega)] at h
      cases h
  · rw [List.getElem?_set_ne (Ne.symm q)] at h
    exact .inr ⟨q, h⟩
section
variable {P : Program} {w : World} {K : PySem.W.Frag} {mg : Str → Option Value} {base : Heap} {CC CI CL WN : Addr}
theorem ok_forget_parts {f : Addr} {fd : FuncData} (F : Fun K "forget_parts" "Line.forget_parts" s_forget_parts f fd) (T : Txt K mg CC CI CL WN) : FnOk P w K mg base CX0 1 f fd ["self", "i"] (sp_forget_parts CC CI CL) := by
  refine F.ok sc_forget_parts (fun vs H Q E h => ?_) (fun cdv A outer s H vs Q E hr h => ⟨_, (pss_cons (ps_for PassesOwn.never rfl (pi_range2 (by rfl) T.f_range (pa_cons (pe_op op_mul (pv 1) (pe_gI T.c_PARTS_OF_EACH rfl)) (pa_cons (pe_op op_mul (pe_op op_add (pv 1) pe_int) (pe_gI T.c_PARTS_OF_EACH rfl)) pa_nil))) (pg_name (i := 2) sc_forget_parts.nd rfl (Or.inl rfl)) (pss_one (ps_asg (pe_lst pa_nil) (pg_sub (pe_fld (pv 0) rfl) (pv 2) set_list))))
    (pss_one (ps_fld (pv 0) pe_non rfl))), ?_⟩)
  · obtain ⟨_, _, _, _, _, _, _, _, rfl, _⟩ := h
    rfl
  · obtain ⟨ln, dx, c, il, pl', ch, pvs, i, rfl, hln, hpl, hlen, hi, k⟩ := h
    have nlp : ln ≠ pl' := ne_of hln hpl fun z => nomatch z
    refine s_seq ?_
    refine ⟨.int i, rfl, (i : Int), 4, rfl, rfl, .inl ⟨by omega, by omega⟩, .int i, rfl, (i : Int), 1, rfl, rfl, (i : Int) + 1, 4, rfl, rfl, .inl ⟨by omega, by omega⟩, (i : Int) * 4, ((i : Int) + 1) * 4, rfl, ⟨by omega, by omega, by omega, by omega⟩, ?_⟩
    have e0 : (((i : Int) + 1) * 4 - (i : Int) * 4).toNat = 4 := by omega
    rw [e0]
    refine for_range (lo := (i : Int) * 4) (n := 4) (fun j σ' H' => (∃ y, σ' = [some (.ref ln), some (.int i), y]) ∧ (∀ a o, H a = some o → a ≠ pl' → H' a = some o) ∧ ∃ pvs', H' pl' = some (.lst pvs') ∧ pvs'.length = 8 ∧ ∀ p v, pvs'[p]? = some v → (4 * i ≤ p ∧ p < 4 * i + j ∧ ∃ q, v = .ref q ∧ H' q = some (.lst []) ∧ H q = none) ∨ ((p < 4 * i ∨ 4 * i + j ≤ p) ∧ pvs[p]? = some v))
      ⟨⟨_, rfl⟩, fun a o h _ => h, pvs, hpl, hlen, fun p v h => .inr ⟨by omega, h⟩⟩ ?_ ?_
    · rintro j σ' H1 hj ⟨⟨y, rfl⟩, fr, pvs1, hp1, hl1, hall⟩
      refine ⟨by show 0 ≤ sizeLine; decide, fun q hq => ?_⟩
      have e1 : (i : Int) * 4 + (j : Int) = ((4 * i + j : Nat) : Int) := by omega
      have nq : pl' ≠ q := ne_of_none hp1 hq
      have hln1 := fr ln _ hln nlp
      refine ⟨.ref ln, rfl, ln, CL, dx, _, .ref pl', rfl, same_new hq _ _ hln1, T.cCL, T.nCL_parts, lkPar, _, rfl, pl', pvs1, _, 4 * i + j, rfl, rfl, same_new hq _ _ hp1, ?_, ?_⟩
      · rw [e1]
        unfold ixN
        rw [if_pos (by omega), if_pos (by omega)]
        exact congrArg some (by omega)
      · refine ⟨⟨_, rfl⟩, fun a o h hx => ?_, _, upd_same, by rw [List.length_set]; exact hl1, fun p v h => ?_⟩
        · rw [upd_ne hx]
          exact same_new hq _ _ (fr a o h hx)
        · rcases getElem_set h with ⟨rfl, rfl⟩ | ⟨hne, h'⟩
          · refine .inl ⟨by omega, by omega, q, rfl, ?_, ?_⟩
            · rw [upd_ne (Ne.symm nq)]
              exact upd_same
            · cases e : H q with
              | none => rfl
              | some o =>
                rw [fr q o e (Ne.symm nq)] at hq
                cases hq
          · rcases hall p v h' with ⟨h1, h2, q', rfl, h3, h4⟩ | ⟨h1, h2⟩
            · refine .inl ⟨h1, by omega, q', rfl, ?_, h4⟩
              rw [upd_ne (fun z => by rw [z, hpl] at h4; cases h4)]
              exact same_new hq _ _ h3
            · exact .inr ⟨by omega, h2⟩
    · rintro σ' H1 ⟨⟨y, rfl⟩, fr, pvs1, hp1, hl1, hall⟩
      refine s_fld (M := M0) (P := .val .non) (ev_c rfl) rfl (fr ln _ hln nlp) T.cCL T.nCL_chosen (by show 4 < 1000; decide) fun v3 H3 e3 hv3 => ?_
      obtain rfl : v3 = .non := hv3
      refine k _ pvs1 (fun a o h h1 h2 => by rw [upd_ne h1]; exact e3 _ _ (fr a o h h2)) ?_ ?_ hl1 fun p v h => ?_
      · rw [upd_same, lineF_ch]
      · rw [upd_ne (Ne.symm nlp)]
        exact e3 _ _ hp1
      · rcases hall p v h with ⟨h1, h2, q', rfl, h3, h4⟩ | ⟨h1, h2⟩
        · refine .inl ⟨by omega, q', rfl, ?_, h4⟩
          rw [upd_ne (fun z => by rw [z, hln] at h4; cases h4)]
          exact e3 _ _ h3
        · exact .inr ⟨by omega, h2⟩
end
section
variable {α : Type} [Enc α] {K : PySem.W.Frag} {M M' M'' : Addr → Prop} {σ : L2.St} {H : Hp} {te to ti tl : TE} {P : Pr} {D : Ends} {tu rest : TS} {g : TG}
theorem s_setLS {p : Addr} {xs : List V} {j : Nat} (h : Ev M te σ H P) (ho : Ev M' to σ H (.val (.ref p))) (hi : Ev M'' ti σ H (.is j)) (hp : H p = some (.lst xs)) (hj : j < xs.length) (k : ∀ v H1, Same H H1 → P.p v (hid M H1) → rest D σ (upd H1 p (.lst (xs.set j v)))) : tSeq (tAsg te (gSub to ti rSetL)) rest D σ H :=
  s_setL (D := { D with nx := rest D }) h ho hi hp hj k
theorem s_forS {l : List α} (h : Ev M tl σ H (.is l)) (Pv : Hp → Nat → L2.St → Hp → Prop) (h0 : ∀ H1, Same H H1 → Pv H1 0 σ H1) (hk : ∀ H1 i σ' H', Pv H1 i σ' H' → Same (hid M H1) (hid M H'))
    (hs : ∀ H1 i x v σ' H', Same H H1 → l[i]? = some x → Is (hid M H') v x → Pv H1 i σ' H' → g v σ' H' fun σ2 H2 => tu { D with nx := Pv H1 (i + 1), ct := Pv H1 (i + 1), bk := rest D } σ2 H2)
    (hd : ∀ H1 σ' H', Same H H1 → Pv H1 l.length σ' H' → rest D σ' H') : tSeq (tFor (iList K tl) g tu) rest D σ H := s_for (D := { D with nx := rest D }) h Pv h0 hk hs hd
end
/-! ### tell_size -/
def aff (m : Fc05.Cat) (x f : Nat) : Bool := decide (Fc05.from_ m f = x) || decide (Fc05.to_ m f = x)
def cont (m : Fc05.Cat) (t : Fc05.Inst) (x k : Nat) (D : List Nat) (f : Nat) : List Nat := if f ∈ D ∧ aff m x f = true then List.replicate ((t.size.set x k).getD (Fc05.from_ m f) 0) 99 else lead m t f
theorem rows_resized {m : Fc05.Cat} {t : Fc05.Inst} {x k y : Nat} : Fc05.rows (Fc05.resized m t x k) y = (t.size.set x k).getD y 0 := rfl
theorem lead_resized {m : Fc05.Cat} {t : Fc05.Inst} (ok : CatOk m) (io : InstOk m t) {x k : Nat} (hx : x < m.n) {f : Nat} (hf : f < m.arrows.length) : lead m (Fc05.resized m t x k) f = if f = x then List.range k else cont m t x k (told m) f := by
  by_cases q : f = x
  · subst q
    rw [if_pos rfl]
    unfold lead
    rw [if_pos hx, rows_resized, List.getD_eq_getElem?_getD, List.getElem?_set_self (by rw [io.sz]; exact hx)]
    rfl
  · rw [if_neg q]
    unfold cont
    by_cases hn : f < m.n
    · have h1 : ¬ (f ∈ told m ∧ aff m x f = true) := fun z => by
        have := told_mem.mp z.1
        omega
      rw [if_neg h1]
      unfold lead
      rw [if_pos hn, if_pos hn, rows_resized, List.getD_eq_getElem?_getD, List.getElem?_set_ne (Ne.symm q), ← List.getD_eq_getElem?_getD]
      rfl
    · have ft : f ∈ told m := told_mem.mpr ⟨by omega, hf⟩
      have h2 : (Fc05.resized m t x k).tab.getD f [] = if Fc05.from_ m f = x ∨ Fc05.to_ m f = x then List.replicate ((t.size.set x k).getD (Fc05.from_ m f) 0) 99 else t.tab.getD f [] := by
        have hl : f < t.tab.length := by rw [io.tb]; exact hf
        show (t.tab.zipIdx.map fun y => if Fc05.from_ m y.2 = x ∨ Fc05.to_ m y.2 = x then List.replicate ((t.size.set x k).getD (Fc05.from_ m y.2) 0) 99 else y.1).getD f [] = _
        rw [List.getD_eq_getElem?_getD, List.getElem?_map, List.getElem?_zipIdx, List.getElem?_eq_getElem hl, List.getD_eq_getElem?_getD (l := t.tab), List.getElem?_eq_getElem hl]
        simp
      unfold lead
      rw [if_neg hn, h2]
      by_cases a : Fc05.from_ m f = x ∨ Fc05.to_ m f = x
      · have a' : aff m x f = true := by
          unfold aff
          simpa using a
        rw [if_pos a, if_pos ⟨ft, a'⟩]
      · have a' : ¬ (f ∈ told m ∧ aff m x f = true) := fun z => a (by
          have := z.2
          unfold aff at this
          simpa using this)
        rw [if_neg a, if_neg a', if_neg hn]
structure LasRel (H : Hp) (las las' : List Addr) : Prop where
  old : ∀ (f : Nat) (la : Addr), las'[f]? = some la → las[f]? = some la ∨ H la = none
  inj : ∀ (f f' : Nat) (la : Addr), las'[f]? = some la → las'[f']? = some la → H la = none → f = f'
def sp_tell_size (CC CI CL : Addr) : Sp := fun vs H Q _ => ∃ (c dxc b e d : Addr) (m : Fc05.Cat) (t : Fc05.Inst) (kvs : List (List Key × V)) (x k : Nat) (A : InsA), vs = [.ref A.i, .int x, .int k] ∧
  H c = some (.ins CC dxc (catF m.n b e d)) ∧ H b = some (.lst (nv (m.arrows.map (·.1)))) ∧ H e = some (.lst (nv (m.arrows.map (·.2)))) ∧ H d = some (.dT kvs) ∧ Made kvs m.makes ∧ CatOk m ∧ InstOk m t ∧ InsOk CI H c m t A ∧ x < m.n ∧ k ≤ 6 ∧
  b ≠ A.s ∧ b ≠ A.l ∧ e ≠ A.s ∧ e ≠ A.l ∧ A.s ≠ A.l ∧ (∀ la ∈ A.las, la ≠ A.s ∧ la ≠ A.l) ∧
  ∀ H' las', (∀ a o, H a = some o → a ≠ A.s → a ≠ A.l → H' a = some o) → InsOk CI H' c m (Fc05.resized m t x k) { A with las := las' } → LasRel H A.las las' → Q .non H'
/-- between two turns: the leads' lists so far -/
structure TsI (H : Hp) (A : InsA) (n : Nat) (sz : List Nat) (cont : Nat → List Nat) (H' : Hp) (las' : List Addr) : Prop where
  fr : ∀ a o, H a = some o → a ≠ A.s → a ≠ A.l → H' a = some o
  s_ : H' A.s = some (.lst (nv sz))
  l_ : H' A.l = some (.lst (las'.map V.ref))
  len : las'.length = n
  cn : ∀ (f : Nat) (la : Addr), las'[f]? = some la → H' la = some (.lst (nv (cont f)))
  rel : LasRel H A.las las'
  sep : ∀ la ∈ las', la ≠ A.s ∧ la ≠ A.l
theorem TsI.on {H H' H2 : Hp} {A : InsA} {n : Nat} {sz : List Nat} {cn : Nat → List Nat} {las' : List Addr} (h : TsI H A n sz cn H' las') (e : Same H' H2) : TsI H A n sz cn H2 las' :=
  ⟨fun a o q h1 h2 => e _ _ (h.fr a o q h1 h2), e _ _ h.s_, e _ _ h.l_, h.len, fun f la q => e _ _ (h.cn f la q), h.rel, h.sep⟩
/-- one of them is put in anew -/
theorem TsI.put {H H' : Hp} {A : InsA} {n : Nat} {sz : List Nat} {cn cn' : Nat → List Nat} {las' : List Addr} {f : Nat} {q : Addr} {l : List Nat} (h : TsI H A n sz cn H' las') (nsl0 : A.s ≠ A.l) (hs : H A.s ≠ none) (hl : H A.l ≠ none) (hq : H' q = some (.lst (nv l))) (nq : ∀ (f : Nat) (la : Addr), las'[f]? = some la → la ≠ q) (nH : H q = none) (nl : q ≠ A.l) (hc1 : cn' f = l) (hc2 : ∀ f', f' ≠ f → cn' f' = cn f') :
    TsI H A n sz cn' (upd H' A.l (.lst ((las'.set f q).map V.ref))) (las'.set f q) := by
  have nqs : q ≠ A.s := fun z => hs (by rw [← z]; exact nH)
  have nsl : ∀ {a : Addr}, a ≠ A.l → upd H' A.l (.lst ((las'.set f q).map V.ref)) a = H' a := fun h => upd_ne h
  refine ⟨fun a o h1 h2 h3 => by rw [nsl h3]; exact h.fr a o h1 h2 h3, ?_, upd_same, by rw [List.length_set]; exact h.len, fun f' la h1 => ?_, ⟨fun f' la h1 => ?_, fun f1 f2 la h1 h2 h3 => ?_⟩, fun la h1 => ?_⟩
  · rw [nsl nsl0]
    exact h.s_
  · rcases getElem_set h1 with ⟨rfl, rfl⟩ | ⟨h2, h3⟩
    · rw [nsl nl, hc1]
      exact hq
    · rw [nsl (h.sep la (List.mem_of_getElem? h3)).2, hc2 f' h2]
      exact h.cn f' la h3
  · rcases getElem_set h1 with ⟨rfl, rfl⟩ | ⟨h2, h3⟩
    · exact .inr nH
    · exact h.rel.old f' la h3
  · rcases getElem_set h1 with ⟨rfl, rfl⟩ | ⟨h4, h5⟩
    · rcases getElem_set h2 with ⟨h6, _⟩ | ⟨h6, h7⟩
      · exact h6.symm
      · exact absurd rfl (nq _ _ h7)
    · rcases getElem_set h2 with ⟨rfl, rfl⟩ | ⟨h6, h7⟩
      · exact absurd rfl (nq _ _ h5)
      · exact h.rel.inj f1 f2 la h5 h7 h3
  · obtain ⟨f', h2⟩ := List.getElem?_of_mem h1
    rcases getElem_set h2 with ⟨rfl, rfl⟩ | ⟨h4, h5⟩
    · exact ⟨nqs, nl⟩
    · exact h.sep la (List.mem_of_getElem? h5)
section
variable {P : Program} {w : World} {K : PySem.W.Frag} {mg : Str → Option Value} {base : Heap} {CC CI CL WN : Addr}
theorem ok_tell_size {f : Addr} {fd : FuncData} (F : Fun K "tell_size" "Instance.tell_size" s_tell_size f fd) (T : Txt K mg CC CI CL WN) (g_told_arrows : MetOk P w K mg base CC 1 "told_arrows" ["self"] (sp_told_arrows CC CI CL)) : FnOk P w K mg base CX0 2 f fd ["self", "x", "k"] (sp_tell_size CC CI CL) := by
  refine F.ok sc_tell_size (fun vs H Q E h => ?_) (fun cdv A outer s H vs Q E hr h => ⟨_, (pss_cons (ps_set (i := 3) sc_tell_size.nd rfl (Or.inl rfl) (pe_fld (pv 0) rfl))
    (pss_cons (ps_asg (pv 2) (pg_sub (pe_fld (pv 0) rfl) (pv 1) set_list))
    (pss_cons (ps_for PassesOwn.never rfl (pi_list (pe_methD0 (pv 3) T.cCC g_told_arrows (hr.mono (by decide)))) (pg_name (i := 4) sc_tell_size.nd rfl (Or.inl rfl)) (pss_one (ps_if (PW.pt (pw_or (pt_cmpR op_eq (pe_ix ix_list (pe_fld (pv 3) rfl) (pv 4) (fun _ _ => rfl)) (pv 1) (nomark _)) (pw_or1 (pt_cmpR op_eq (pe_ix ix_list (pe_fld (pv 3) rfl) (pv 4) (fun _ _ => rfl)) (pv 1) (nomark _))))) (pss_one (ps_asg (pe_op op_rep (pe_lst (pa_cons (pe_gI T.c_NOT_TOLD rfl) pa_nil)) (pe_ix ix_list (pe_fld (pv 0) rfl) (pe_ix ix_list (pe_fld (pv 3) rfl) (pv 4) (fun _ _ => rfl)) (fun _ _ => rfl))) (pg_sub (pe_fld (pv 0) rfl) (pv 4) set_list))) pss_nil)))
    (pss_one (ps_asg (pe_listRg rfl (by rfl) T.f_list (prg_1 (by rfl) T.f_range (pv 2))) (pg_sub (pe_fld (pv 0) rfl) (pv 1) set_list)))))), ?_⟩)
  · obtain ⟨_, _, _, _, _, _, _, _, _, _, _, rfl, _⟩ := h
    rfl
  · obtain ⟨c, dxc, b, e, d, m, t, kvs, x, k', A', rfl, hc, hb, he, hd, hm, ok, io, iok, hx, hk, nbs, nbl, nes, nel, nsl, sepA, k⟩ := h
    obtain ⟨hi, hs, hl, hlen, hla⟩ := iok
    have ncs : c ≠ A'.s := ne_of hc hs fun z => nomatch z
    have ncl : c ≠ A'.l := ne_of hc hl fun z => nomatch z
    have nds : d ≠ A'.s := ne_of hd hs fun z => nomatch z
    have ndl : d ≠ A'.l := ne_of hd hl fun z => nomatch z
    have nis : A'.i ≠ A'.s := ne_of hi hs fun z => nomatch z
    have nil : A'.i ≠ A'.l := ne_of hi hl fun z => nomatch z
    have xl : x < t.size.length := by rw [io.sz]; exact hx
    -- category = self.category
    refine s_asgS (M := M0) (ev_fld (P := .val (.ref c)) (ev_o rfl) (by rw [hid0]; exact hi) T.cCI T.nCI_category lk_here rfl) fun v1 H1 e1 hv1 => ?_
    obtain rfl : v1 = .ref c := hv1
    -- self.sizes[x] = k
    refine s_setLS (M := M0) (P := .is k') (ev_n rfl) (ev_fld (M := M0) (P := .val (.ref A'.s)) (ev_o rfl) (by rw [hid0]; exact e1 _ _ hi) T.cCI T.nCI_sizes lkS rfl) (ev_n (M := M0) rfl) (e1 _ _ hs) (by rw [List.length_map]; exact xl) fun v2 H2 e2 hv2 => ?_
    obtain rfl := Is.nat hv2
    have hset : (nv t.size).set x (.int (k' : Nat)) = nv (t.size.set x k') := by rw [nv, nv, List.map_set]
    rw [hset]
    have e12 := e1.trans e2
    generalize hG : upd H2 A'.s (.lst (nv (t.size.set x k'))) = G2
    have g2 : ∀ a o, H a = some o → a ≠ A'.s → G2 a = some o := fun a o h hx => by rw [← hG, upd_ne hx]; exact e12 _ _ h
    have ts0 : TsI H A' m.arrows.length (t.size.set x k') (cont m t x k' []) G2 A'.las := by
      refine ⟨fun a o h h1 _ => g2 a o h h1, by rw [← hG]; exact upd_same, g2 _ _ hl (Ne.symm nsl), hlen, fun f la h => ?_, ⟨fun f la h => .inl h, fun f f' la h1 _ h3 => ?_⟩, sepA⟩
      · have h1 : cont m t x k' [] f = lead m t f := if_neg fun z => nomatch z.1
        rw [h1]
        exact g2 _ _ (hla f la h) (sepA la (List.mem_of_getElem? h)).1
      · rw [hla f la h1] at h3
        cases h3
    have cat : ∀ (G : Hp), (∀ a o, H a = some o → a ≠ A'.s → a ≠ A'.l → G a = some o) → CatAt CC G c m := fun G f => ⟨dxc, b, e, d, kvs, f _ _ hc ncs ncl, is_nv (f _ _ hb nbs nbl), is_nv (f _ _ he nes nel), f _ _ hd nds ndl, hm⟩
    have hso : H A'.s ≠ none := by rw [hs]; exact fun z => nomatch z
    have hlo : H A'.l ≠ none := by rw [hl]; exact fun z => nomatch z
    have isA : ∀ {H' : Hp} {cn : Nat → List Nat} {las' : List Addr}, TsI H A' m.arrows.length (t.size.set x k') cn H' las' → H' A'.i = some (.ins CI A'.dx (instF c A'.s A'.l)) := fun h => h.fr _ _ hi nis nil
    have frs : ∀ {H' : Hp} {cn : Nat → List Nat} {las' : List Addr} {q : Addr}, TsI H A' m.arrows.length (t.size.set x k') cn H' las' → H' q = none → H q = none ∧ q ≠ A'.l ∧ ∀ (f : Nat) (la : Addr), las'[f]? = some la → la ≠ q := fun {H' cn las' q} h hq => by
      refine ⟨?_, (fun z => by rw [z, h.l_] at hq; cases hq), (fun f la h1 z => by rw [← z, h.cn f la h1] at hq; cases hq)⟩
      cases q1 : H q with
      | none => rfl
      | some o =>
        by_cases z1 : q = A'.s
        · rw [z1, h.s_] at hq
          cases hq
        · by_cases z2 : q = A'.l
          · rw [z2, h.l_] at hq
            cases hq
          · rw [h.fr q o q1 z1 z2] at hq
            cases hq
    have trL : ∀ {H' : Hp} {cn : Nat → List Nat} {las' : List Addr}, TsI H A' m.arrows.length (t.size.set x k') cn H' las' → Tr (fun a => a = A'.l) H' := fun h a z => by
      rw [z, h.l_]
      exact fun z => nomatch z
    have catL : CatAt CC (hid (fun a => a = A'.l) G2) c m := cat _ fun a o h h1 h2 => by
      rw [hid_no (M := fun a => a = A'.l) h2]
      exact ts0.fr a o h h1 h2
    refine s_forS (M := fun a => a = A'.l) (l := told m) (ev_told_arrows (trL ts0) (ev_o rfl) catL ok.eight ok.nle) (fun Hs j σ' H' => (∃ y, σ' = [some (.ref A'.i), some (.int x), some (.int k'), some (.ref c), y]) ∧ (∃ las', TsI H A' m.arrows.length (t.size.set x k') (cont m t x k' ((told m).take j)) H' las') ∧ Same (hid (fun a => a = A'.l) Hs) (hid (fun a => a = A'.l) H')) (fun H3 e3 => ⟨⟨_, rfl⟩, ⟨_, ts0.on e3⟩, Same.refl _⟩) (fun Hs j σ' H' p => p.2.2) ?_ ?_
    · rintro Hs j f v σ' H3 es hf hv ⟨⟨y, rfl⟩, ⟨las', ts⟩, e3⟩
      obtain rfl := Is.nat hv
      have hf' := told_mem.mp (List.mem_of_getElem? hf)
      have ct := cat _ ts.fr
      have ct0 : CatAt CC (hid M0 H3) c m := by rw [hid0]; exact ct
      have fl := from_lt ok hf'.2
      have hnew : ∀ D f', f' ≠ f → cont m t x k' (D ++ [f]) f' = cont m t x k' D f' := fun D f' h => by
        unfold cont
        have : (f' ∈ D ++ [f]) ↔ f' ∈ D := by
          rw [List.mem_append, List.mem_singleton]
          exact ⟨fun z => z.elim id fun z => absurd z h, .inl⟩
        simp only [this]
      refine s_if (et_or (et_test (M := M0) (ev_eqN (ev_ixL (ev_begins T (ev_o rfl) ct0) (ev_n rfl) (arrows_at1 hf'.2)) (ev_n rfl))) fun _ => et_test (M := M0) (ev_eqN (ev_ixL (ev_ends T (ev_o rfl) ct0) (ev_n rfl) (arrows_at2 hf'.2)) (ev_n rfl))) (fun hb H4 e4 => ?_) fun hb H4 e4 => ?_
      · have ts4 := ts.on e4
        have ct4 : CatAt CC (hid M0 H4) c m := by rw [hid0]; exact ct.mono e4
        have hsz : (t.size.set x k')[Fc05.from_ m f]? = some ((t.size.set x k').getD (Fc05.from_ m f) 0) := by
          have : Fc05.from_ m f < (t.size.set x k').length := by rw [List.length_set, io.sz]; exact fl.1
          exact getD_at this
        have sz6 : (t.size.set x k').getD (Fc05.from_ m f) 0 ≤ 6 := by
          rcases getElem_set hsz with ⟨_, h2⟩ | ⟨h1, h2⟩
          · rw [h2]
            exact hk
          · have := rows_at h2
            rw [← this]
            exact rows_le io _
        refine s_setL (M := dom H4) (P := .is (List.replicate ((t.size.set x k').getD (Fc05.from_ m f) 0) 99)) (ev_rep (by omega) trD (ev_lst1 trD (ev_cn (n := 99))) (Ev.lift (M := M0) (ev_ixL (l := t.size.set x k') (ev_fld (P := .is (t.size.set x k')) (ev_o rfl) (by rw [hid0]; exact isA ts4) T.cCI T.nCI_sizes lkS (by rw [hid0]; exact is_nv ts4.s_)) (ev_ixL (ev_begins T (ev_o rfl) ct4) (ev_n rfl) (arrows_at1 hf'.2)) hsz)))
          (ev_fld (M := M0) (P := .val (.ref A'.l)) (ev_o rfl) (by rw [hid0]; exact isA ts4) T.cCI T.nCI_leads lkL rfl) (ev_n (M := M0) rfl) ts4.l_ (by rw [List.length_map, ts4.len]; exact hf'.2) fun v5 H5 e5 hv5 => ?_
        obtain ⟨q, vs, rfl, hq, hvs⟩ := Is.list hv5
        obtain rfl := hvs.nats
        obtain ⟨nq, hq'⟩ := hid_some hq
        obtain ⟨n1, n2, n3⟩ := frs ts4 (dom_no nq)
        have hmap : (las'.map V.ref).set f (.ref q) = (las'.set f q).map V.ref := by rw [List.map_set]
        rw [hmap]
        refine ⟨⟨_, rfl⟩, ⟨_, (ts4.on e5).put nsl hso hlo hq' n3 n1 n2 (l := List.replicate ((t.size.set x k').getD (Fc05.from_ m f) 0) 99) ?_ ?_⟩, ?_⟩
        · rw [tk_more hf]
          unfold cont
          exact if_pos ⟨List.mem_append_right _ (List.mem_singleton.mpr rfl), hb⟩
        · intro f'' h
          rw [tk_more hf]
          exact hnew _ _ h
        · rw [hid_upd (M := fun a => a = A'.l) rfl]
          exact e3.trans (hid_mono (e4.trans e5))
      · refine ⟨⟨_, rfl⟩, ⟨las', ?_⟩, e3.trans (hid_mono e4)⟩
        have : cont m t x k' ((told m).take (j + 1)) = cont m t x k' ((told m).take j) := by
          funext f'
          rw [tk_more hf]
          by_cases q : f' = f
          · subst q
            unfold cont
            have hb' : aff m x f' = false := hb
            rw [if_neg fun z => by rw [hb'] at z; exact Bool.false_ne_true z.2, if_neg fun z => by rw [hb'] at z; exact Bool.false_ne_true z.2]
          · exact hnew _ _ q
        rw [this]
        exact ts.on e4
    · rintro Hs σ' H3 es ⟨⟨y, rfl⟩, ⟨las', ts⟩, e3⟩
      rw [List.take_length] at ts
      have xa : x < m.arrows.length := by have := ok.nle; omega
      refine s_setL (M := dom H3) (P := .is (List.range k')) (ev_lrg1 trD (by omega) (ev_n rfl)) (ev_fld (M := M0) (P := .val (.ref A'.l)) (ev_o rfl) (by rw [hid0]; exact isA ts) T.cCI T.nCI_leads lkL rfl) (ev_n (M := M0) rfl) ts.l_ (by rw [List.length_map, ts.len]; exact xa) fun v5 H5 e5 hv5 => ?_
      obtain ⟨q, vs, rfl, hq, hvs⟩ := Is.list hv5
      obtain rfl := hvs.nats
      obtain ⟨nq, hq'⟩ := hid_some hq
      obtain ⟨n1, n2, n3⟩ := frs ts (dom_no nq)
      have hmap : (las'.map V.ref).set x (.ref q) = (las'.set x q).map V.ref := by rw [List.map_set]
      rw [hmap]
      have ts5 := (ts.on e5).put (cn' := fun f => if f = x then List.range k' else cont m t x k' (told m) f) nsl hso hlo hq' n3 n1 n2 (l := List.range k') (if_pos rfl) fun f' h => if_neg h
      refine k _ (las'.set x q) ts5.fr ⟨isA ts5, ts5.s_, ts5.l_, ts5.len, fun f la h => ?_⟩ ts5.rel
      have hf : f < m.arrows.length := by
        have h1 : f < (las'.set x q).length := (List.getElem?_eq_some_iff.mp h).1
        rw [ts5.len] at h1
        exact h1
      rw [lead_resized ok io hx hf]
      exact ts5.cn f la h
end
end Im

namespace Im
/-! ### the mathematics: what the program reckons is what the specification says -/
def rightB (m : Fc05.Cat) (t : Fc05.Inst) : Bool := catB m && decide (faultL m t = [])
def PartOk (m : Fc05.Cat) (t : Fc05.Inst) (p : List (Nat × Nat)) : Prop := p = (Fc05.places m t).filter fun r => decide (r ∈ p)
structure StOk (s : Fc05.St) : Prop where
  cat : CatOk s.cat
  ia : InstOk s.cat s.a
  ib : InstOk s.cat s.b
  np : s.parts.length = 8
  pt : ∀ (p : Nat) (q : List (Nat × Nat)), s.parts[p]? = some q → PartOk s.cat (Fc05.instOf s p) q
  wy : ∀ mp, s.way = some mp → mp.length = (Fc05.places s.cat s.a).length
section
variable {m : Fc05.Cat} {t s : Fc05.Inst}
theorem after_mk {f g : Nat} (h : Fc05.to_ m f = Fc05.from_ m g) : Fc05.after m f g = mkOf m f g := by
  unfold Fc05.after mkOf madeOf
  rw [if_neg (fun q => q h)]
theorem after_no {f g : Nat} (h : Fc05.to_ m f ≠ Fc05.from_ m g) : Fc05.after m f g = none := by
  unfold Fc05.after
  rw [if_pos h]
theorem fits_iff {f g : Nat} : fits m f g = true ↔ ∃ h, mkOf m f g = some h ∧ Fc05.from_ m h = Fc05.from_ m f ∧ Fc05.to_ m h = Fc05.to_ m g := by
  unfold fits
  cases e : mkOf m f g with
  | none => simp
  | some h => simp
theorem isCat_iff : Fc05.isCat m = true ↔ ∀ f, f < m.arrows.length → ∀ g, g < m.arrows.length → Fc05.to_ m f = Fc05.from_ m g → ∃ h, mkOf m f g = some h ∧ h < m.arrows.length ∧ Fc05.from_ m h = Fc05.from_ m f ∧ Fc05.to_ m h = Fc05.to_ m g ∧ ∀ k, k < m.arrows.length → Fc05.to_ m g = Fc05.from_ m k → Fc05.after m h k = (Fc05.after m g k).bind fun q => Fc05.after m f q := by
  unfold Fc05.isCat Fc05.all
  rw [List.all_eq_true]
  constructor
  · intro H f hf g hg e
    have h1 := List.all_eq_true.mp (H f (List.mem_range.mpr hf)) g (List.mem_range.mpr hg)
    rw [after_mk e] at h1
    cases e2 : mkOf m f g with
    | none => rw [e2] at h1; simp [e] at h1
    | some h =>
      rw [e2] at h1
      simp [e] at h1
      obtain ⟨q1, q2, q3, q4⟩ := h1
      exact ⟨h, rfl, q1, q2, q3, fun k hk e3 => (q4 k hk).resolve_left (fun z => z e3)⟩
  · intro H f hf
    rw [List.all_eq_true]
    intro g hg
    by_cases e : Fc05.to_ m f = Fc05.from_ m g
    · obtain ⟨h, e2, q1, q2, q3, q4⟩ := H f (List.mem_range.mp hf) g (List.mem_range.mp hg) e
      rw [after_mk e, e2]
      simp [e, q1, q2, q3]
      intro k hk
      by_cases e3 : Fc05.to_ m g = Fc05.from_ m k
      · exact .inr (q4 k hk e3)
      · exact .inl e3
    · simp [e]
theorem catB_iff : catB m = true ↔ (∀ f g, (f, g) ∈ pairs m → fits m f g = true) ∧ ∀ f g, (f, g) ∈ pairs m → ∀ h, h ∈ told m → Fc05.to_ m g = Fc05.from_ m h → sameB m f g h = true := by
  unfold catB
  rw [Bool.and_eq_true, List.all_eq_true, List.all_eq_true]
  constructor
  · rintro ⟨h1, h2⟩
    refine ⟨fun f g h => h1 (f, g) h, fun f g h k hk e => ?_⟩
    have := List.all_eq_true.mp (h2 (f, g) h) k hk
    simpa [e] using this
  · rintro ⟨h1, h2⟩
    refine ⟨fun p h => h1 p.1 p.2 h, fun p h => ?_⟩
    rw [List.all_eq_true]
    intro k hk
    by_cases e : Fc05.to_ m p.2 = Fc05.from_ m k
    · simp [e, h2 p.1 p.2 h k hk e]
    · simp [e]
theorem mk_all (ok : CatOk m) (h1 : ∀ f g, (f, g) ∈ pairs m → fits m f g = true) {f g : Nat} (hf : f < m.arrows.length) (hg : g < m.arrows.length) (e : Fc05.to_ m f = Fc05.from_ m g) : ∃ h, mkOf m f g = some h ∧ h < m.arrows.length ∧ Fc05.from_ m h = Fc05.from_ m f ∧ Fc05.to_ m h = Fc05.to_ m g := by
  by_cases q : f < m.n
  · obtain ⟨q1, q2⟩ := own_from ok q
    refine ⟨g, by unfold mkOf; rw [if_pos q], hg, ?_, rfl⟩
    rw [← e, q1, q2]
  · by_cases q' : g < m.n
    · obtain ⟨q1, q2⟩ := own_from ok q'
      refine ⟨f, by unfold mkOf; rw [if_neg q, if_pos q'], hf, rfl, ?_⟩
      rw [e, q1, q2]
    · obtain ⟨h, e1, e2, e3⟩ := fits_iff.mp (h1 f g (pairs_mem.mpr ⟨told_mem.mpr ⟨by omega, hf⟩, told_mem.mpr ⟨by omega, hg⟩, e⟩))
      exact ⟨h, e1, mkOf_lt ok hf hg e1, e2, e3⟩
theorem isCat_eq (ok : CatOk m) : Fc05.isCat m = catB m := by
  rw [Bool.eq_iff_iff, isCat_iff, catB_iff]
  constructor
  · intro H
    have h1 : ∀ f g, (f, g) ∈ pairs m → fits m f g = true := fun f g h => by
      obtain ⟨p1, p2, p3⟩ := pairs_mem.mp h
      obtain ⟨h, e, _, e2, e3, _⟩ := H f (told_mem.mp p1).2 g (told_mem.mp p2).2 p3
      exact fits_iff.mpr ⟨h, e, e2, e3⟩
    refine ⟨h1, fun f g h k hk e => ?_⟩
    obtain ⟨p1, p2, p3⟩ := pairs_mem.mp h
    obtain ⟨h, e1, _, e2, e3, e4⟩ := H f (told_mem.mp p1).2 g (told_mem.mp p2).2 p3
    have e5 := e4 k (told_mem.mp hk).2 e
    rw [after_mk (e3.trans e), after_mk e] at e5
    obtain ⟨q, f1, f2, f3, f4⟩ := mk_all ok h1 (told_mem.mp p2).2 (told_mem.mp hk).2 e
    rw [f1] at e5
    have e6 : mkOf m h k = Fc05.after m f q := e5
    rw [after_mk (p3.trans f3.symm)] at e6
    unfold sameB
    rw [e1, f1]
    exact decide_eq_true e6
  · rintro ⟨h1, h2⟩ f hf g hg e
    obtain ⟨h, e1, e2, e3, e4⟩ := mk_all ok h1 hf hg e
    refine ⟨h, e1, e2, e3, e4, fun k hk e5 => ?_⟩
    obtain ⟨q, f1, f2, f3, f4⟩ := mk_all ok h1 hg hk e5
    rw [after_mk (e4.trans e5), after_mk e5, f1]
    show mkOf m h k = Fc05.after m f q
    rw [after_mk (e.trans f3.symm)]
    by_cases qf : f < m.n
    · have a1 : mkOf m f g = some g := by unfold mkOf; rw [if_pos qf]
      obtain rfl : g = h := Option.some.inj (a1.symm.trans e1)
      rw [f1]
      unfold mkOf
      rw [if_pos qf]
    · by_cases qg : g < m.n
      · have a1 : mkOf m f g = some f := by unfold mkOf; rw [if_neg qf, if_pos qg]
        obtain rfl : f = h := Option.some.inj (a1.symm.trans e1)
        have a2 : mkOf m g k = some k := by unfold mkOf; rw [if_pos qg]
        obtain rfl : k = q := Option.some.inj (a2.symm.trans f1)
        rfl
      · by_cases qk : k < m.n
        · have a2 : mkOf m g k = some g := by unfold mkOf; rw [if_neg qg, if_pos qk]
          obtain rfl : g = q := Option.some.inj (a2.symm.trans f1)
          rw [e1]
          unfold mkOf
          by_cases qh : h < m.n
          · rw [if_pos qh]
            have b1 := (own_from ok qh).2
            have b2 := (own_from ok qk).1
            rw [← b1, ← b2, e4, e5]
          · rw [if_neg qh, if_pos qk]
        · have h3 := h2 f g (pairs_mem.mpr ⟨told_mem.mpr ⟨by omega, hf⟩, told_mem.mpr ⟨by omega, hg⟩, e⟩) k (told_mem.mpr ⟨by omega, hk⟩) e5
          unfold sameB at h3
          rw [e1, f1] at h3
          exact of_decide_eq_true h3
theorem findSome_flat {α β γ : Type} (l : List α) (f : α → List β) (g : β → Option γ) : (l.flatMap f).findSome? g = l.findSome? fun x => (f x).findSome? g := by
  induction l with
  | nil => rfl
  | cons a l ih =>
    rw [List.flatMap_cons, List.findSome?_append, ih, List.findSome?_cons]
    cases (f a).findSome? g <;> rfl
theorem findSome_fil {α β γ : Type} (l : List α) (p : α → Bool) (f : α → β) (g : β → Option γ) : ((l.filter p).map f).findSome? g = l.findSome? fun x => if p x = true then g (f x) else none := by
  induction l with
  | nil => rfl
  | cons a l ih =>
    rw [List.filter_cons, List.findSome?_cons]
    by_cases h : p a = true
    · rw [if_pos h, if_pos h, List.map_cons, List.findSome?_cons, ih]
    · rw [if_neg h, if_neg h, ih]
theorem det_eq : detO m t = (told m).findSome? fun f => (told m).findSome? fun g => match Fc05.after m f g with
    | none => none
    | some h => (List.range (Fc05.rows t (Fc05.from_ m f))).findSome? fun r => if Fc05.go m t g (Fc05.go m t f r) = Fc05.go m t h r then none else some [3, f, g, r] := by
  unfold detO pairs
  rw [findSome_flat]
  congr 1
  funext f
  rw [findSome_fil]
  congr 1
  funext g
  by_cases e : Fc05.to_ m f = Fc05.from_ m g
  · rw [if_pos (decide_eq_true e), after_mk e]
    unfold detF
    rfl
  · rw [if_neg (by rw [decide_eq_true_eq]; exact e), after_no e]
theorem detO_ne {l : List Nat} (h : detO m t = some l) : l ≠ [] := by
  obtain ⟨f, _, h2⟩ := List.exists_of_findSome?_eq_some h
  unfold detF at h2
  split at h2
  · cases h2
  · obtain ⟨r, _, h4⟩ := List.exists_of_findSome?_eq_some h2
    unfold detR at h4
    split at h4
    · cases h4
    · obtain rfl := Option.some.inj h4
      exact fun z => nomatch z
theorem faultI_eq : Fc05.faultI m t = match gapO m t with
    | some l => some l
    | none => detO m t := by
  rw [det_eq]
  rfl
theorem fault_eq (ok : CatOk m) (io : InstOk m t) (hb : catB m = true) : Fc05.faultI m t = if faultL m t = [] then none else some (faultL m t) := by
  rw [faultI_eq]
  unfold faultL
  cases e : gapO m t with
  | some l => exact (if_neg (gapO_ne e)).symm
  | none =>
    cases e2 : detO m t with
    | none => rfl
    | some l => exact (if_neg (detO_ne e2)).symm
end
end Im
namespace Im
section
variable {m : Fc05.Cat} {t s : Fc05.Inst}
theorem cont_dec {α : Type} [BEq α] [LawfulBEq α] [DecidableEq α] (l : List α) (x : α) : l.contains x = decide (x ∈ l) := by
  rw [Bool.eq_iff_iff, List.contains_iff_mem, decide_eq_true_eq]
theorem meet_eq {p q : List (Nat × Nat)} (hp : PartOk m t p) : Fc05.meet m t p q = p.filter fun r => decide (r ∈ q) := by
  unfold Fc05.meet
  have h : p.filter (fun r => decide (r ∈ q)) = ((Fc05.places m t).filter fun r => decide (r ∈ p)).filter fun r => decide (r ∈ q) := congrArg _ hp
  rw [h, List.filter_filter]
  refine List.filter_congr fun r _ => ?_
  rw [cont_dec, cont_dec, Bool.and_comm]
theorem join_eq {p q : List (Nat × Nat)} : Fc05.join m t p q = joinL m t p q := by
  unfold Fc05.join joinL
  refine List.filter_congr fun r _ => ?_
  rw [cont_dec, cont_dec]
theorem led_all {r : Nat × Nat} (g : Nat × Nat → Bool) : ((ledTo m t r).all g) = (Fc05.all m).all fun f => Fc05.from_ m f != r.1 || g (Fc05.to_ m f, Fc05.go m t f r.2) := by
  unfold ledTo arrowsFrom
  rw [List.all_map, List.all_filter]
  rfl
theorem implies_eq {p q : List (Nat × Nat)} : Fc05.implies m t p q = impL m t p q := by
  unfold Fc05.implies impL
  refine List.filter_congr fun r _ => ?_
  unfold rowImp
  rw [led_all]
  congr 1
  funext f
  rw [cont_dec, cont_dec]
  simp
theorem brought_eq {l : List (Nat × Nat)} : Fc05.brought m t l = broughtL m t l := by
  unfold Fc05.brought broughtL
  refine List.filter_congr fun r _ => ?_
  rw [Bool.eq_iff_iff, decide_eq_true_eq, List.mem_flatMap]
  unfold ledTo Fc05.all
  simp only [List.any_eq_true, List.mem_map, from_mem, List.mem_range, Bool.and_eq_true, beq_iff_eq]
  constructor
  · rintro ⟨q, hq, f, hf, e1, e2, e3⟩
    exact ⟨q, hq, f, ⟨hf, e1⟩, by rw [e2, e3]⟩
  · rintro ⟨q, hq, f, ⟨hf, e1⟩, e2⟩
    exact ⟨q, hq, f, hf, e1, congrArg (·.1) e2, congrArg (·.2) e2⟩
theorem within_eq {p q : List (Nat × Nat)} : Fc05.within p q = withinB p q := by
  unfold Fc05.within withinB
  rw [Bool.eq_iff_iff, decide_eq_true_eq, List.filter_eq_self, List.all_eq_true]
  constructor
  · intro h a ha
    rw [← cont_dec]
    exact h a ha
  · intro h a ha
    rw [cont_dec]
    exact h a ha
theorem truth_eq {p : List (Nat × Nat)} {x r : Nat} : Fc05.truth m t p x r = intoL m t p x r := by
  unfold Fc05.truth intoL arrowsFrom
  rw [List.filter_filter]
  refine List.filter_congr fun f _ => ?_
  rw [cont_dec, Bool.and_comm]
theorem isPart_eq {p : List (Nat × Nat)} : Fc05.isPart m t p = isPartB m t p := by
  unfold Fc05.isPart isPartB
  congr 1
  funext r
  rw [← within_eq]
  unfold Fc05.within
  rw [led_all]
theorem foldl_ch_app {α : Type} (l : List α) : ∀ a b : List (List α), l.foldl chStep (a ++ b) = l.foldl chStep a ++ l.foldl chStep b := by
  induction l with
  | nil => intro a b; rfl
  | cons x l ih =>
    intro a b
    rw [List.foldl_cons, List.foldl_cons, List.foldl_cons, ← ih]
    unfold chStep
    rw [List.flatMap_append]
theorem foldl_ch_cons {α : Type} (l : List α) (x : α) (a : List α) : (x :: l).foldl chStep [a] = l.foldl chStep [a] ++ l.foldl chStep [a ++ [x]] := by
  rw [← foldl_ch_app]
  rfl
theorem partsFrom_eq (l : List (Nat × Nat)) : ∀ p, Fc05.partsFrom m t l p = (l.foldl chStep [p]).filter (isPartB m t) := by
  induction l with
  | nil =>
    intro p
    unfold Fc05.partsFrom
    rw [isPart_eq]
    show _ = [p].filter _
    rw [List.filter_cons]
    rfl
  | cons r l ih =>
    intro p
    unfold Fc05.partsFrom
    rw [ih, ih, foldl_ch_cons, List.filter_append]
theorem parts_eq : Fc05.parts m t = partsL m t := partsFrom_eq _ _
theorem subsets_ch (l : List Nat) : ∀ p, l.foldl chStep [p] = (Fc05.subsets l).map fun k => p ++ k := by
  induction l with
  | nil => intro p; simp [Fc05.subsets]
  | cons x l ih =>
    intro p
    rw [foldl_ch_cons, ih, ih]
    show _ = (Fc05.subsets l ++ (Fc05.subsets l).map fun k => x :: k).map fun k => p ++ k
    rw [List.map_append, List.map_map]
    congr 1
    refine List.map_congr_left fun k _ => ?_
    simp
theorem subsets_eq (l : List Nat) : Fc05.subsets l = choices l := by
  unfold choices
  rw [subsets_ch]
  simp
theorem sieves_eq (ok : CatOk m) (hb : catB m = true) (x : Nat) : Fc05.sieves m x = closedL m x := by
  unfold Fc05.sieves closedL
  rw [subsets_eq]
  refine List.filter_congr fun l hl => ?_
  unfold Fc05.closed closedB
  rw [Bool.eq_iff_iff, List.all_eq_true, List.all_eq_true]
  refine forall_congr' fun f => forall_congr' fun hf => ?_
  have hf' := (from_mem.mp (choices_sub _ l hl f hf)).1
  rw [List.all_eq_true, List.all_eq_true]
  unfold Fc05.all
  constructor
  · intro H g hg
    obtain ⟨h1, h2⟩ := from_mem.mp hg
    have h3 := H g (List.mem_range.mpr h1)
    rw [after_mk h2.symm] at h3
    obtain ⟨h, e, _⟩ := mk_all ok (catB_iff.mp hb).1 hf' h1 h2.symm
    rw [e] at h3 ⊢
    show decide (h ∈ l) = true
    rw [← cont_dec]
    exact h3
  · intro H g hg
    by_cases e : Fc05.to_ m f = Fc05.from_ m g
    · have h3 := H g (from_mem.mpr ⟨List.mem_range.mp hg, e.symm⟩)
      rw [after_mk e]
      cases e2 : mkOf m f g with
      | none => rfl
      | some h =>
        rw [e2] at h3
        show l.contains h = true
        rw [cont_dec]
        exact h3
    · rw [after_no e]
/-! where a row stands among all -/
def upTo (t : Fc05.Inst) (n : Nat) : List (Nat × Nat) := (List.range n).flatMap fun x => (List.range (Fc05.rows t x)).map fun r => (x, r)
theorem upTo_more (n : Nat) : upTo t (n + 1) = upTo t n ++ (List.range (Fc05.rows t n)).map fun r => (n, r) := by
  unfold upTo
  rw [List.range_succ, List.flatMap_append, List.flatMap_singleton]
theorem sum_take (l : List Nat) : ∀ x : Nat, (l.take (x + 1)).foldl (fun a b => a + b) 0 = (l.take x).foldl (fun a b => a + b) 0 + l.getD x 0 := by
  induction l with
  | nil => intro x; simp
  | cons b l ih =>
    intro x
    cases x with
    | zero => simp
    | succ x =>
      have := ih x
      rw [List.take_succ_cons, List.take_succ_cons, List.foldl_cons, List.foldl_cons, foldl_sum, foldl_sum (l.take x), this, List.getD_cons_succ]
      omega
theorem offset_more (x : Nat) : Fc05.offset t (x + 1) = Fc05.offset t x + Fc05.rows t x := sum_take _ _
theorem upTo_len : ∀ n : Nat, (upTo t n).length = Fc05.offset t n
  | 0 => rfl
  | n + 1 => by
    rw [upTo_more, List.length_append, upTo_len n, offset_more, List.length_map, List.length_range]
theorem upTo_at : ∀ (n a x r : Nat), (upTo t n)[a]? = some (x, r) ↔ x < n ∧ r < Fc05.rows t x ∧ a = Fc05.offset t x + r
  | 0, a, x, r => by
    constructor
    · intro h
      have : (upTo t 0)[a]? = none := by rw [List.getElem?_eq_none]; exact Nat.zero_le _
      rw [this] at h
      cases h
    · rintro ⟨h, _⟩
      omega
  | n + 1, a, x, r => by
    rw [upTo_more]
    by_cases q : a < (upTo t n).length
    · rw [List.getElem?_append_left q, upTo_at n]
      constructor
      · rintro ⟨h1, h2, h3⟩
        exact ⟨by omega, h2, h3⟩
      · rintro ⟨h1, h2, h3⟩
        refine ⟨?_, h2, h3⟩
        rcases Nat.lt_or_ge x n with h | h
        · exact h
        · exfalso
          have : x = n := by omega
          subst this
          rw [upTo_len] at q
          omega
    · rw [List.getElem?_append_right (by omega), List.getElem?_map, upTo_len]
      rw [upTo_len] at q
      constructor
      · intro h
        obtain ⟨y, h1, h2⟩ := Option.map_eq_some_iff.mp h
        obtain ⟨h3, h4⟩ := List.getElem?_eq_some_iff.mp h1
        rw [List.length_range] at h3
        rw [List.getElem_range] at h4
        obtain rfl : n = x := congrArg (·.1) h2
        obtain rfl : y = r := congrArg (·.2) h2
        exact ⟨by omega, by omega, by omega⟩
      · rintro ⟨h1, h2, h3⟩
        rcases Nat.lt_or_ge x n with h | h
        · exfalso
          have := (upTo_at n a x r).mpr ⟨h, h2, h3⟩
          have := (List.getElem?_eq_some_iff.mp this).1
          rw [upTo_len] at this
          exact q this
        · have : x = n := by omega
          subst this
          rw [List.getElem?_range (by omega)]
          show some (x, a - Fc05.offset t x) = some (x, r)
          rw [h3, Nat.add_sub_cancel_left]
theorem places_at {a x r : Nat} : (Fc05.places m t)[a]? = some (x, r) ↔ x < m.n ∧ r < Fc05.rows t x ∧ a = Fc05.offset t x + r := upTo_at m.n a x r
theorem places_one {a b : Nat} {p : Nat × Nat} (h1 : (Fc05.places m t)[a]? = some p) (h2 : (Fc05.places m t)[b]? = some p) : a = b := by
  obtain ⟨_, _, e1⟩ := places_at (x := p.1) (r := p.2) |>.mp h1
  obtain ⟨_, _, e2⟩ := places_at (x := p.1) (r := p.2) |>.mp h2
  omega
theorem moves_eq {mp : List Nat} : movesL m s mp = (Fc05.places m s).map fun p => (p, (p.1, Fc05.valueAt s mp p.1 p.2)) := by
  unfold movesL
  refine List.ext_getElem? fun k => ?_
  rw [List.getElem?_map, List.getElem?_map, List.getElem?_zipIdx]
  cases e : (Fc05.places m s)[k]? with
  | none => rfl
  | some p =>
    obtain ⟨_, _, e1⟩ := places_at (x := p.1) (r := p.2) |>.mp e
    show some (p, (p.1, mp.getD (0 + k) 0)) = some (p, (p.1, Fc05.valueAt s mp p.1 p.2))
    unfold Fc05.valueAt
    rw [Nat.zero_add, e1]
theorem forward_eq {mp : List Nat} {p : List (Nat × Nat)} (ok : CatOk m) (ios : InstOk m s) (hl : mp.length = (Fc05.places m s).length) : Fc05.forward m s t mp p = fwdL m t (movesL m s mp) p := by
  unfold Fc05.forward fwdL
  rw [moves_eq]
  refine List.filter_congr fun v _ => ?_
  rw [Bool.eq_iff_iff, decide_eq_true_eq]
  simp only [List.any_eq_true, Bool.and_eq_true, beq_iff_eq, List.mem_map, List.mem_filter, decide_eq_true_eq, cont_dec]
  constructor
  · rintro ⟨r, h1, h2, h3, h4⟩
    exact ⟨_, ⟨⟨r, h1, rfl⟩, h2⟩, by rw [h4, h3]⟩
  · rintro ⟨x, ⟨⟨r, h1, rfl⟩, h2⟩, h3⟩
    exact ⟨r, h1, h2, congrArg (·.1) h3, congrArg (·.2) h3⟩
theorem back_eq {mp : List Nat} {q : List (Nat × Nat)} (ok : CatOk m) (ios : InstOk m s) (hl : mp.length = (Fc05.places m s).length) : Fc05.back m s mp q = backL (movesL m s mp) q := by
  unfold Fc05.back backL
  rw [moves_eq, List.filter_map, List.map_map]
  have : ((fun x : Mv => x.1) ∘ fun p : Nat × Nat => (p, (p.1, Fc05.valueAt s mp p.1 p.2))) = id := rfl
  rw [this, List.map_id]
  refine List.filter_congr fun r _ => ?_
  rw [cont_dec]
  rfl
theorem forAll_eq {mp : List Nat} {p : List (Nat × Nat)} (ok : CatOk m) (ios : InstOk m s) (hl : mp.length = (Fc05.places m s).length) : Fc05.forAll m s t mp p = allL m t (movesL m s mp) p := by
  unfold Fc05.forAll allL
  rw [moves_eq]
  refine List.filter_congr fun v _ => ?_
  unfold noneL
  rw [led_all, Bool.eq_iff_iff, List.all_eq_true, List.all_eq_true]
  refine forall_congr' fun f => forall_congr' fun hf => ?_
  have hf' : f < m.arrows.length := List.mem_range.mp hf
  by_cases e : Fc05.from_ m f = v.1
  · simp only [e, bne_self_eq_false, Bool.false_or]
    rw [List.all_eq_true, Bool.not_eq_true', decide_eq_false_iff_not]
    simp only [List.mem_map, List.mem_filter, Bool.not_eq_true', decide_eq_false_iff_not, cont_dec, Bool.or_eq_true, decide_eq_true_eq, bne_iff_ne, List.mem_range]
    constructor
    · rintro H ⟨x, ⟨⟨r, h1, rfl⟩, h2⟩, h3⟩
      have e1 : r.1 = Fc05.to_ m f := congrArg (·.1) h3
      have e2 : Fc05.valueAt s mp r.1 r.2 = Fc05.go m t f v.2 := congrArg (·.2) h3
      have h4 := (places_mem (x := r.1) (r := r.2)).mp h1
      rw [e1] at e2
      rcases H r.2 (e1 ▸ h4.2) with h | h
      · exact h e2
      · rw [← e1] at h
        exact h2 h
    · intro H r hr
      by_cases q : (Fc05.to_ m f, r) ∈ p
      · exact .inr q
      · refine .inl fun e2 => H ⟨_, ⟨⟨(Fc05.to_ m f, r), places_mem.mpr ⟨(from_lt ok hf').2, hr⟩, rfl⟩, q⟩, ?_⟩
        show (Fc05.to_ m f, Fc05.valueAt s mp (Fc05.to_ m f) r) = _
        rw [e2]
  · have e' : (Fc05.from_ m f != v.1) = true := by rw [bne_iff_ne]; exact e
    rw [e', Bool.true_or, Bool.true_or]
theorem hasRow_eq {x r : Nat} : (Fc05.places m t).contains (x, r) = hasRow m t x r := by
  rw [cont_dec, Bool.eq_iff_iff, decide_eq_true_eq, places_mem]
  unfold hasRow
  rw [Bool.and_eq_true, decide_eq_true_eq, decide_eq_true_eq]
end
end Im
namespace Im
section
variable {m : Fc05.Cat} {t s : Fc05.Inst}
theorem gap_right (h : rightB m s = true) : gapO m s = none := by
  unfold rightB at h
  rw [Bool.and_eq_true, decide_eq_true_eq] at h
  have h1 := h.2
  unfold faultL at h1
  cases e : gapO m s with
  | none => rfl
  | some l =>
    rw [e] at h1
    exact absurd h1 (gapO_ne e)
theorem keeps_iff {w : List Nat} {k : Nat} : keepsB m t w (tiesL m s k) = true ↔ ∀ a, a ≤ k → ∀ f, f ∈ arrowsFrom m (pl m s a).1 → max a (ledIx m s a f) = k → Fc05.go m t f (w.getD a 0) = w.getD (ledIx m s a f) 0 := by
  unfold keepsB
  rw [List.all_eq_true]
  constructor
  · intro H a ha f hf e
    have := H ⟨a, f, ledIx m s a f⟩ (by
      unfold tiesL
      rw [List.mem_flatMap]
      refine ⟨a, List.mem_range.mpr (by omega), ?_⟩
      unfold tiesA
      rw [List.mem_map]
      exact ⟨f, List.mem_filter.mpr ⟨hf, decide_eq_true e⟩, rfl⟩)
    exact of_decide_eq_true this
  · intro H x hx
    obtain ⟨h1, h2, h3, h4⟩ := tiesL_mem hx
    rw [h3] at h4
    rw [h3]
    exact decide_eq_true (H x.a h1 x.f h2 h4)
theorem suits_iff {mp : List Nat} {x r v : Nat} : Fc05.suits m s t mp x r v = true ↔ ∀ f, f < m.arrows.length → (Fc05.from_ m f = x → ∀ u, (mp ++ [v])[Fc05.offset s (Fc05.to_ m f) + Fc05.go m s f r]? = some u → Fc05.go m t f v = u) ∧ (Fc05.to_ m f = x → ∀ q, q < Fc05.rows s (Fc05.from_ m f) → Fc05.go m s f q = r → ∀ u, (mp ++ [v])[Fc05.offset s (Fc05.from_ m f) + q]? = some u → Fc05.go m t f u = v) := by
  unfold Fc05.suits Fc05.all
  simp only []
  rw [List.all_eq_true]
  constructor
  · intro H f hf
    have h := H f (List.mem_range.mpr hf)
    rw [Bool.and_eq_true, Bool.or_eq_true, Bool.or_eq_true] at h
    refine ⟨fun e u hu => ?_, fun e q hq eq u hu => ?_⟩
    · have h1 := h.1.resolve_left (by simp [e])
      rw [hu] at h1
      exact eq_of_beq h1
    · have h1 := List.all_eq_true.mp (h.2.resolve_left (by simp [e])) q (List.mem_range.mpr hq)
      rw [Bool.or_eq_true] at h1
      have h2 := h1.resolve_left (by simp [eq])
      rw [hu] at h2
      exact eq_of_beq h2
  · intro H f hf
    obtain ⟨h1, h2⟩ := H f (List.mem_range.mp hf)
    rw [Bool.and_eq_true, Bool.or_eq_true, Bool.or_eq_true]
    constructor
    · by_cases e : Fc05.from_ m f = x
      · right
        cases hu : (mp ++ [v])[Fc05.offset s (Fc05.to_ m f) + Fc05.go m s f r]? with
        | none => rfl
        | some u => exact beq_iff_eq.mpr (h1 e u hu)
      · left
        exact bne_iff_ne.mpr e
    · by_cases e : Fc05.to_ m f = x
      · right
        rw [List.all_eq_true]
        intro q hq
        rw [Bool.or_eq_true]
        by_cases e2 : Fc05.go m s f q = r
        · right
          cases hu : (mp ++ [v])[Fc05.offset s (Fc05.from_ m f) + q]? with
          | none => rfl
          | some u => exact beq_iff_eq.mpr (h2 e q (List.mem_range.mp hq) e2 u hu)
        · left
          exact bne_iff_ne.mpr e2
      · left
        exact bne_iff_ne.mpr e
theorem suits_eq (ok : CatOk m) (hg : gapO m s = none) {mp : List Nat} {k x r v : Nat} (hk : mp.length = k) (hp : (Fc05.places m s)[k]? = some (x, r)) : Fc05.suits m s t mp x r v = keepsB m t (mp ++ [v]) (tiesL m s k) := by
  rw [Bool.eq_iff_iff, suits_iff, keeps_iff]
  have hkl : k < (Fc05.places m s).length := (List.getElem?_eq_some_iff.mp hp).1
  have hpl : pl m s k = (x, r) := Option.some.inj ((pl_at hkl).symm.trans hp)
  have hwl : (mp ++ [v]).length = k + 1 := by rw [List.length_append, hk]; rfl
  have hwk : (mp ++ [v])[k]? = some v := by
    rw [List.getElem?_append_right (by omega), hk, Nat.sub_self]
    rfl
  have hwk' : (mp ++ [v]).getD k 0 = v := by
    rw [List.getD_eq_getElem?_getD, hwk]
    rfl
  have hwg : ∀ j, j ≤ k → (mp ++ [v])[j]? = some ((mp ++ [v]).getD j 0) := fun j hj => by
    rw [List.getD_eq_getElem?_getD, List.getElem?_eq_getElem (by omega)]
    rfl
  constructor
  · intro H a ha f hf e
    have hal : a < (Fc05.places m s).length := by omega
    obtain ⟨b1, b2⟩ := ledIx_lt ok hg hal hf
    obtain ⟨b3, b4, b5⟩ := places_at.mp b2
    obtain ⟨f1, f2⟩ := from_mem.mp hf
    obtain ⟨h1, h2⟩ := H f f1
    by_cases q : a = k
    · subst q
      rw [hpl] at f2 b5
      have := h1 f2 _ (by rw [← b5]; exact hwg _ (by omega))
      rw [hwk']
      exact this
    · have hb : ledIx m s a f = k := by omega
      rw [hb, hp] at b2
      have e1 : x = Fc05.to_ m f := congrArg (·.1) (Option.some.inj b2)
      have e2 : r = Fc05.go m s f (pl m s a).2 := congrArg (·.2) (Option.some.inj b2)
      have h3 := pl_mem hal
      have h4 : a = Fc05.offset s (pl m s a).1 + (pl m s a).2 := (places_at (x := (pl m s a).1) (r := (pl m s a).2) |>.mp (pl_at hal)).2.2
      rw [hb, hwk']
      refine h2 e1.symm (pl m s a).2 (by rw [f2]; exact h3.2) e2.symm _ ?_
      rw [f2, ← h4]
      exact hwg a ha
  · intro H f hf
    constructor
    · intro e u hu
      have hf' : f ∈ arrowsFrom m (pl m s k).1 := from_mem.mpr ⟨hf, by rw [hpl]; exact e⟩
      obtain ⟨b1, b2⟩ := ledIx_lt ok hg hkl hf'
      obtain ⟨b3, b4, b5⟩ := places_at.mp b2
      have b6 : ledIx m s k f = Fc05.offset s (Fc05.to_ m f) + Fc05.go m s f r := by rw [b5, hpl]
      rw [← b6] at hu
      have h1 := (List.getElem?_eq_some_iff.mp hu).1
      have h2 := H k (Nat.le_refl _) f hf' (by omega)
      rw [hwk', List.getD_eq_getElem?_getD, hu] at h2
      exact h2
    · intro e q hq e2 u hu
      have h1 := (List.getElem?_eq_some_iff.mp hu).1
      have h2 : (Fc05.places m s)[Fc05.offset s (Fc05.from_ m f) + q]? = some (Fc05.from_ m f, q) := places_at.mpr ⟨(from_lt ok hf).1, hq, rfl⟩
      have hal := (List.getElem?_eq_some_iff.mp h2).1
      have hpa := Option.some.inj ((pl_at hal).symm.trans h2)
      generalize ea : Fc05.offset s (Fc05.from_ m f) + q = a at *
      have hf' : f ∈ arrowsFrom m (pl m s a).1 := from_mem.mpr ⟨hf, by rw [hpa]⟩
      obtain ⟨b1, b2⟩ := ledIx_lt ok hg hal hf'
      rw [hpa] at b2
      have b3 : (Fc05.to_ m f, Fc05.go m s f (Fc05.from_ m f, q).2) = (x, r) := by rw [← e, ← e2]
      rw [b3] at b2
      have b4 := places_one b2 hp
      have h3 := H a (by omega) f hf' (by omega)
      rw [b4, hwk', List.getD_eq_getElem?_getD, hu] at h3
      exact h3
theorem extend_eq (ok : CatOk m) (hg : gapO m s = none) : ∀ (l : List (Nat × Nat)) (k : Nat), (Fc05.places m s).drop k = l → k ≤ (Fc05.places m s).length → (mapsTo m s t k).flatMap (Fc05.extend m s t l) = mapsTo m s t (Fc05.places m s).length
  | [], k, h, hk => by
    have h1 := congrArg List.length h
    rw [List.length_drop, List.length_nil] at h1
    have : k = (Fc05.places m s).length := by omega
    rw [← this]
    have h2 : Fc05.extend m s t [] = fun x => [x] := funext fun x => rfl
    rw [h2]
    exact List.flatMap_singleton' _
  | p :: l, k, h, hk => by
    have hp : (Fc05.places m s)[k]? = some p := by
      have := congrArg (fun z => z[0]?) h
      simpa [List.getElem?_drop] using this
    have hkl := (List.getElem?_eq_some_iff.mp hp).1
    have hd : (Fc05.places m s).drop (k + 1) = l := by
      have := congrArg List.tail h
      rw [List.tail_drop] at this
      exact this
    rw [← extend_eq ok hg l (k + 1) hd hkl]
    show _ = (longerL m t (mapsTo m s t k) (Fc05.rows t (pl m s k).1) (tiesL m s k)).flatMap _
    unfold longerL
    rw [List.flatMap_assoc]
    have hpl : pl m s k = p := Option.some.inj ((pl_at hkl).symm.trans hp)
    have hcong : ∀ (L : List (List Nat)) (f g : List Nat → List (List Nat)), (∀ x ∈ L, f x = g x) → L.flatMap f = L.flatMap g := by
      intro L f g hfg
      induction L with
      | nil => rfl
      | cons a L ih =>
        rw [List.flatMap_cons, List.flatMap_cons, hfg a List.mem_cons_self, ih fun x hx => hfg x (List.mem_cons_of_mem _ hx)]
    refine hcong _ _ _ fun mp hmp => ?_
    have hlen := (mapsTo_mem k mp hmp).1
    rw [List.flatMap_map]
    show (((List.range (Fc05.rows t p.1)).filter (Fc05.suits m s t mp p.1 p.2)).flatMap fun v => Fc05.extend m s t l (mp ++ [v])) = _
    rw [hpl]
    congr 1
    refine List.filter_congr fun v _ => ?_
    exact suits_eq ok hg hlen hp
theorem maps_eq (ok : CatOk m) (ios : InstOk m s) (iot : InstOk m t) (hs : rightB m s = true) (ht : rightB m t = true) : Fc05.maps m s t = mapsL m s t := by
  have := extend_eq (t := t) ok (gap_right hs) (Fc05.places m s) 0 (List.drop_zero) (Nat.zero_le _)
  unfold Fc05.maps mapsL
  rw [← this]
  show _ = ([[]] : List (List Nat)).flatMap _
  rw [List.flatMap_singleton]
end
theorem right_eq {s : Fc05.St} (h : StOk s) (i : Nat) : Fc05.right s i = rightB s.cat (Fc05.inst s i) := by
  have io : InstOk s.cat (Fc05.inst s i) := by
    unfold Fc05.inst
    split
    · exact h.ia
    · exact h.ib
  unfold Fc05.right rightB
  rw [isCat_eq h.cat]
  cases e : catB s.cat with
  | false => rfl
  | true =>
    rw [fault_eq h.cat io e]
    by_cases q : faultL s.cat (Fc05.inst s i) = []
    · rw [if_pos q, decide_eq_true q]
      rfl
    · rw [if_neg q, decide_eq_false q]
      rfl
end Im
namespace Im
section
variable {m : Fc05.Cat} {t : Fc05.Inst}
theorem part_fil (f : Nat × Nat → Bool) : PartOk m t ((Fc05.places m t).filter f) := by
  unfold PartOk
  refine List.filter_congr fun r hr => ?_
  rw [Bool.eq_iff_iff, decide_eq_true_eq, List.mem_filter]
  exact ⟨fun h => ⟨hr, h⟩, fun h => h.2⟩
theorem part_nil : PartOk m t [] := by
  unfold PartOk
  symm
  rw [List.filter_eq_nil_iff]
  intro r _
  simp
theorem places_nodup : (Fc05.places m t).Nodup := by
  unfold List.Nodup
  rw [List.pairwise_iff_getElem]
  intro i j h1 h2 h3 e
  have hi : (Fc05.places m t)[i]? = some ((Fc05.places m t)[i]) := List.getElem?_eq_getElem h1
  have hj : (Fc05.places m t)[j]? = some ((Fc05.places m t)[i]) := by rw [e]; exact List.getElem?_eq_getElem h2
  have := places_one hi hj
  omega
theorem sub_fil {s l : List (Nat × Nat)} (h : s.Sublist l) : l.Nodup → s = l.filter fun r => decide (r ∈ s) := by
  induction h with
  | slnil => intro _; rfl
  | @cons s l a h ih =>
    intro hn
    obtain ⟨h1, h2⟩ := List.nodup_cons.mp hn
    have h3 : a ∉ s := fun q => h1 (h.subset q)
    rw [List.filter_cons, if_neg (by rw [decide_eq_true_eq]; exact h3)]
    exact ih h2
  | @cons_cons s l a h ih =>
    intro hn
    obtain ⟨h1, h2⟩ := List.nodup_cons.mp hn
    rw [List.filter_cons, if_pos (by rw [decide_eq_true_eq]; exact List.mem_cons_self)]
    congr 1
    have := ih h2
    refine this.trans (List.filter_congr fun r hr => ?_)
    rw [Bool.eq_iff_iff, decide_eq_true_eq, decide_eq_true_eq, List.mem_cons]
    refine ⟨.inr, fun q => q.resolve_left fun e => ?_⟩
    subst e
    exact h1 hr
theorem ch_sub {α : Type} (l : List α) : ∀ (F : List (List α)) (k : List α), (∀ s ∈ F, s.Sublist k) → ∀ s ∈ l.foldl chStep F, s.Sublist (k ++ l) := by
  induction l with
  | nil => intro F k h s hs; rw [List.append_nil]; exact h s hs
  | cons a l ih =>
    intro F k h s hs
    rw [List.foldl_cons] at hs
    have := ih (chStep F a) (k ++ [a]) (fun s' hs' => by
      unfold chStep at hs'
      rw [List.mem_flatMap] at hs'
      obtain ⟨r, hr, hs'⟩ := hs'
      rcases List.mem_cons.mp hs' with rfl | hs'
      · exact (h _ hr).trans (List.sublist_append_left _ _)
      · obtain rfl := List.mem_singleton.mp hs'
        exact List.Sublist.append (h _ hr) (List.Sublist.refl _)) s hs
    rw [List.append_assoc] at this
    exact this
theorem part_nth {q : List (Nat × Nat)} (h : q ∈ Fc05.parts m t) : PartOk m t q := by
  rw [parts_eq] at h
  unfold partsL at h
  have h1 := (List.mem_filter.mp h).1
  have h2 := ch_sub (Fc05.places m t) [[]] [] (by simp) q h1
  rw [List.nil_append] at h2
  exact sub_fil h2 places_nodup
theorem inst_none (ok : CatOk m) : InstOk m (Fc05.none_ m) := by
  unfold Fc05.none_ Fc05.things Fc05.all
  refine ⟨by simp, by simp, fun f h1 h2 => ?_, ?_⟩
  · have h3 := (from_lt ok h2).1
    unfold Fc05.rows
    rw [List.getD_eq_getElem?_getD, List.getD_eq_getElem?_getD, List.getElem?_map, List.getElem?_map, List.getElem?_range h2, List.getElem?_range h3]
    rfl
  · unfold Fc05.total
    have : ∀ n : Nat, ((List.range n).map fun _ => 0).foldl (fun a b => a + b) 0 = 0 := by
      intro n
      induction n with
      | zero => rfl
      | succ n ih => rw [List.range_succ, List.map_append, List.foldl_append, ih]; rfl
    show ((List.range m.n).map fun _ => 0).foldl (fun a b => a + b) 0 ≤ 6
    rw [this]
    omega
theorem st_emptied (ok : CatOk m) : StOk (Fc05.emptied m) := by
  refine ⟨ok, inst_none ok, inst_none ok, rfl, fun p q h => ?_, fun mp h => nomatch h⟩
  have h1 : (List.replicate 8 ([] : List (Nat × Nat)))[p]? = some q := h
  rw [List.getElem?_replicate] at h1
  split at h1
  · obtain rfl := Option.some.inj h1
    exact part_nil
  · cases h1
theorem cat_begin {n : Nat} (h0 : 1 ≤ n) (h3 : n ≤ 3) : CatOk (Fc05.begin_ n) := by
  unfold Fc05.begin_
  refine ⟨h0, h3, ?_, ?_, fun f hf => ?_, fun a ha => ?_, fun x hx => nomatch hx⟩
  · show ((List.range n).map fun x => (x, x)).length ≤ 8
    rw [List.length_map, List.length_range]
    omega
  · show n ≤ ((List.range n).map fun x => (x, x)).length
    rw [List.length_map, List.length_range]
    omega
  · show ((List.range n).map fun x => (x, x))[f]? = some (f, f)
    rw [List.getElem?_map, List.getElem?_range hf]
    rfl
  · obtain ⟨x, h1, rfl⟩ := List.mem_map.mp ha
    have := List.mem_range.mp h1
    exact ⟨this, this⟩
theorem cat_arrow (ok : CatOk m) {x y : Nat} (hx : x < m.n) (hy : y < m.n) (h8 : m.arrows.length < 8) : CatOk ⟨m.n, m.arrows ++ [(x, y)], m.makes⟩ := by
  have hl : (m.arrows ++ [(x, y)]).length = m.arrows.length + 1 := by rw [List.length_append]; rfl
  have hn := ok.nle
  refine ⟨ok.pos, ok.three, ?_, ?_, fun f hf => ?_, fun a ha => ?_, fun z hz => ?_⟩
  · show (m.arrows ++ [(x, y)]).length ≤ 8
    omega
  · show m.n ≤ (m.arrows ++ [(x, y)]).length
    omega
  · show (m.arrows ++ [(x, y)])[f]? = _
    have hf' : f < m.n := hf
    rw [List.getElem?_append_left (by omega)]
    exact ok.own f hf
  · rcases List.mem_append.mp ha with h | h
    · exact ok.lt a h
    · obtain rfl := List.mem_singleton.mp h
      exact ⟨hx, hy⟩
  · show z.2 < (m.arrows ++ [(x, y)]).length
    have := ok.mks z hz
    omega
theorem cat_make (ok : CatOk m) {f g h : Nat} (hh : h < m.arrows.length) : CatOk ⟨m.n, m.arrows, ((f, g), h) :: m.makes.filter fun x => x.1 != (f, g)⟩ := by
  refine ⟨ok.pos, ok.three, ok.eight, ok.nle, ok.own, ok.lt, fun z hz => ?_⟩
  rcases List.mem_cons.mp hz with rfl | h
  · exact hh
  · exact ok.mks z (List.mem_filter.mp h).1
theorem sum_set (l : List Nat) : ∀ (x k : Nat), x < l.length → (l.set x k).foldl (fun a b => a + b) 0 = l.foldl (fun a b => a + b) 0 - l.getD x 0 + k := by
  induction l with
  | nil => intro x k h; simp at h
  | cons b l ih =>
    intro x k h
    cases x with
    | zero =>
      rw [List.set_cons_zero, List.foldl_cons, List.foldl_cons, foldl_sum, foldl_sum l (0 + b), List.getD_cons_zero]
      omega
    | succ x =>
      have h1 := ih x k (by simpa using h)
      have h2 := getD_le_sum l x
      rw [List.set_cons_succ, List.foldl_cons, List.foldl_cons, foldl_sum, foldl_sum l (0 + b), List.getD_cons_succ, h1]
      omega
theorem inst_resized (ok : CatOk m) (io : InstOk m t) {x k : Nat} (hx : x < m.n) (h6 : Fc05.total t - Fc05.rows t x + k ≤ 6) : InstOk m (Fc05.resized m t x k) := by
  have hxl : x < t.size.length := by rw [io.sz]; exact hx
  have hsz : (Fc05.resized m t x k).size = t.size.set x k := rfl
  refine ⟨by rw [hsz, List.length_set]; exact io.sz, ?_, fun f h1 h2 => ?_, ?_⟩
  · show (t.tab.zipIdx.map _).length = _
    rw [List.length_map, List.length_zipIdx]
    exact io.tb
  · have hft : f < t.tab.length := by rw [io.tb]; exact h2
    have e0 : (Fc05.resized m t x k).tab = t.tab.zipIdx.map fun y => if Fc05.from_ m y.2 = x ∨ Fc05.to_ m y.2 = x then List.replicate ((t.size.set x k).getD (Fc05.from_ m y.2) 0) 99 else y.1 := rfl
    have e1 : (Fc05.resized m t x k).tab.getD f [] = if Fc05.from_ m f = x ∨ Fc05.to_ m f = x then List.replicate ((t.size.set x k).getD (Fc05.from_ m f) 0) 99 else t.tab.getD f [] := by
      rw [e0, List.getD_eq_getElem?_getD, List.getElem?_map, List.getElem?_zipIdx, List.getElem?_eq_getElem hft, List.getD_eq_getElem?_getD (l := t.tab), List.getElem?_eq_getElem hft]
      show (if Fc05.from_ m (0 + f) = x ∨ Fc05.to_ m (0 + f) = x then List.replicate ((t.size.set x k).getD (Fc05.from_ m (0 + f)) 0) 99 else t.tab[f]) = _
      rw [Nat.zero_add]
      rfl
    rw [e1]
    unfold Fc05.rows
    rw [hsz]
    by_cases q : Fc05.from_ m f = x ∨ Fc05.to_ m f = x
    · rw [if_pos q, List.length_replicate]
    · rw [if_neg q, io.row f h1 h2]
      unfold Fc05.rows
      rw [List.getD_eq_getElem?_getD, List.getD_eq_getElem?_getD, List.getElem?_set_ne fun e => q (.inl e.symm)]
  · unfold Fc05.total
    rw [hsz, sum_set _ _ _ hxl]
    exact h6
theorem inst_set (io : InstOk m t) {f r v : Nat} : InstOk m ⟨t.size, t.tab.set f ((t.tab.getD f []).set r v)⟩ := by
  refine ⟨io.sz, ?_, fun g h1 h2 => ?_, io.tot⟩
  · show (t.tab.set f _).length = _
    rw [List.length_set]
    exact io.tb
  · have hg : g < t.tab.length := by rw [io.tb]; exact h2
    show ((t.tab.set f ((t.tab.getD f []).set r v)).getD g []).length = Fc05.rows t (Fc05.from_ m g)
    rw [← io.row g h1 h2, List.getD_eq_getElem?_getD, List.getElem?_set]
    by_cases e : f = g
    · subst e
      rw [if_pos rfl, if_pos hg]
      show ((t.tab.getD f []).set r v).length = _
      rw [List.length_set]
    · rw [if_neg e, ← List.getD_eq_getElem?_getD]
end
section
variable {s : Fc05.St}
theorem st_ii (h : StOk s) (i : Nat) : InstOk s.cat (Fc05.inst s i) := by
  unfold Fc05.inst
  split
  · exact h.ia
  · exact h.ib
theorem home_le (p : Nat) : Fc05.home p = 0 ∨ Fc05.home p = 1 := by
  unfold Fc05.home
  split
  · exact .inl rfl
  · exact .inr rfl
theorem st_withInst (h : StOk s) {i : Nat} (hi : ¬ 1 < i) {t : Fc05.Inst} (io : InstOk s.cat t) : StOk (Fc05.withInst s i t) := by
  have e1 : (Fc05.withInst s i t).a = if i = 0 then t else s.a := rfl
  have e2 : (Fc05.withInst s i t).b = if i = 0 then s.b else t := rfl
  refine ⟨h.cat, ?_, ?_, ?_, fun p q hq => ?_, fun mp z => nomatch z⟩
  · rw [e1]
    split
    · exact io
    · exact h.ia
  · rw [e2]
    split
    · exact h.ib
    · exact io
  · show (s.parts.zipIdx.map _).length = 8
    rw [List.length_map, List.length_zipIdx]
    exact h.np
  · have h1 : (s.parts.zipIdx.map fun x => if Fc05.home x.2 = i then [] else x.1)[p]? = some q := hq
    rw [List.getElem?_map, List.getElem?_zipIdx] at h1
    cases e : s.parts[p]? with
    | none => rw [e] at h1; cases h1
    | some z =>
      rw [e] at h1
      have h2 : (if Fc05.home (0 + p) = i then [] else z) = q := Option.some.inj h1
      rw [Nat.zero_add] at h2
      by_cases q1 : Fc05.home p = i
      · rw [if_pos q1] at h2
        subst h2
        exact part_nil
      · rw [if_neg q1] at h2
        subst h2
        have h3 := h.pt p z e
        have h4 : Fc05.instOf (Fc05.withInst s i t) p = Fc05.instOf s p := by
          unfold Fc05.instOf Fc05.inst
          rw [e1, e2]
          rcases home_le p with k | k
          · rw [k] at q1 ⊢
            rw [if_pos rfl, if_neg (fun z => q1 z.symm), if_pos rfl]
          · rw [k] at q1 ⊢
            have : i = 0 := by omega
            rw [if_neg (by decide), if_pos this, if_neg (by decide)]
        rw [h4]
        exact h3
theorem st_withPart (h : StOk s) {o : Nat} {p : List (Nat × Nat)} (hp : PartOk s.cat (Fc05.instOf s o) p) : StOk (Fc05.withPart s o p).1 := by
  refine ⟨h.cat, h.ia, h.ib, ?_, fun k q hq => ?_, h.wy⟩
  · show (s.parts.set o p).length = 8
    rw [List.length_set]
    exact h.np
  · have h1 : (s.parts.set o p)[k]? = some q := hq
    rw [List.getElem?_set] at h1
    show PartOk s.cat (Fc05.instOf s k) q
    by_cases e : o = k
    · subst e
      rw [if_pos rfl] at h1
      split at h1
      · obtain rfl := Option.some.inj h1
        exact hp
      · cases h1
    · rw [if_neg e] at h1
      exact h.pt k q h1
theorem st_made (h : StOk s) {p q o : Nat} {f : Fc05.Cat → Fc05.Inst → Fc05.Part → Fc05.Part → Fc05.Part} (hf : ∀ t a b, PartOk s.cat t (f s.cat t a b)) : StOk (Fc05.made s p q o f).1 := by
  unfold Fc05.made
  split
  · exact h
  · rename_i h1
    split
    · exact h
    · refine st_withPart h ?_
      have e : Fc05.home o = Fc05.home p := by
        by_cases q : Fc05.home p = Fc05.home o
        · exact q.symm
        · exact absurd (.inr (.inr (.inr (.inr q)))) h1
      unfold Fc05.instOf
      rw [e]
      exact hf _ _ _
theorem st_moved (h : StOk s) {p o : Nat} {b : Bool} {f : Fc05.Map → Fc05.Part} (hf : ∀ mp, PartOk s.cat (if b = true then s.b else s.a) (f mp)) : StOk (Fc05.moved s p o b f).1 := by
  unfold Fc05.moved
  split
  · exact h
  · rename_i h1
    split
    · exact h
    · refine st_withPart h ?_
      have e1 : (Fc05.home p == 0) = b := by
        by_cases q : (Fc05.home p == 0) = b
        · exact q
        · exact absurd (.inr (.inr (.inl q))) h1
      have e2 : Fc05.home p ≠ Fc05.home o := fun q => h1 (.inr (.inr (.inr q)))
      have e3 : Fc05.instOf s o = if b = true then s.b else s.a := by
        unfold Fc05.instOf Fc05.inst
        rw [← e1]
        rcases home_le p with k | k <;> rcases home_le o with k' | k'
        · exact absurd (k.trans k'.symm) e2
        · rw [k, k']; rfl
        · rw [k, k']; rfl
        · exact absurd (k.trans k'.symm) e2
      rw [e3]
      exact hf _
theorem maps_len {m : Fc05.Cat} {s t : Fc05.Inst} : ∀ (l : List (Nat × Nat)) (mp q : Fc05.Map), q ∈ Fc05.extend m s t l mp → q.length = mp.length + l.length
  | [], mp, q, h => by
    obtain rfl := List.mem_singleton.mp h
    rfl
  | p :: l, mp, q, h => by
    have h' : q ∈ ((List.range (Fc05.rows t p.1)).filter (Fc05.suits m s t mp p.1 p.2)).flatMap fun v => Fc05.extend m s t l (mp ++ [v]) := h
    obtain ⟨v, _, h2⟩ := List.mem_flatMap.mp h'
    have := maps_len l _ q h2
    rw [List.length_append, List.length_singleton] at this
    rw [this, List.length_cons]
    omega
end
theorem stOk_step {s : Fc05.St} (h : StOk s) (k : Fc05.Call) : StOk (Fc05.step s k).1 := by
  cases k with
  | start n =>
    unfold Fc05.step
    dsimp only
    by_cases q : n = 0 ∨ 3 < n
    · rw [if_pos q]; exact h
    · rw [if_neg q]; exact st_emptied (cat_begin (by omega) (by omega))
  | arrow x y =>
    unfold Fc05.step
    dsimp only
    by_cases q : s.cat.n ≤ x ∨ s.cat.n ≤ y
    · rw [if_pos q]; exact h
    · rw [if_neg q]
      by_cases q' : 8 ≤ s.cat.arrows.length
      · rw [if_pos q']; exact h
      · rw [if_neg q']; exact st_emptied (cat_arrow h.cat (by omega) (by omega) (by omega))
  | make f g k =>
    unfold Fc05.step
    dsimp only
    by_cases q : s.cat.arrows.length ≤ f ∨ s.cat.arrows.length ≤ g ∨ s.cat.arrows.length ≤ k
    · rw [if_pos q]; exact h
    · rw [if_neg q]
      by_cases q' : f < s.cat.n ∨ g < s.cat.n ∨ Fc05.to_ s.cat f ≠ Fc05.from_ s.cat g
      · rw [if_pos q']; exact h
      · rw [if_neg q']; exact st_emptied (cat_make h.cat (by omega))
  | rows i x k =>
    unfold Fc05.step
    dsimp only
    by_cases q : 1 < i
    · rw [if_pos q]; exact h
    · rw [if_neg q]
      by_cases q1 : s.cat.n ≤ x
      · rw [if_pos q1]; exact h
      · rw [if_neg q1]
        by_cases q2 : Fc05.MOST < Fc05.total (Fc05.inst s i) - Fc05.rows (Fc05.inst s i) x + k
        · rw [if_pos q2]; exact h
        · rw [if_neg q2]
          exact st_withInst h q (inst_resized h.cat (st_ii h i) (by omega) (Nat.le_of_not_lt q2))
  | set i f r v =>
    unfold Fc05.step
    dsimp only
    by_cases q : 1 < i
    · rw [if_pos q]; exact h
    · rw [if_neg q]
      by_cases q1 : s.cat.arrows.length ≤ f
      · rw [if_pos q1]; exact h
      · rw [if_neg q1]
        by_cases q2 : f < s.cat.n ∨ Fc05.rows (Fc05.inst s i) (Fc05.from_ s.cat f) ≤ r ∨ 99 < v
        · rw [if_pos q2]; exact h
        · rw [if_neg q2]
          exact st_withInst h q (inst_set (st_ii h i))
  | check i => exact h
  | way k =>
    unfold Fc05.step
    dsimp only
    by_cases q : Fc05.right s 0 = false ∨ Fc05.right s 1 = false
    · rw [if_pos q]; exact h
    · rw [if_neg q]
      cases e : (Fc05.maps s.cat s.a s.b)[k]? with
      | none => simp only [e]; exact h
      | some mp =>
        simp only [e]
        refine ⟨h.cat, h.ia, h.ib, h.np, h.pt, fun z hz => ?_⟩
        obtain rfl : mp = z := Option.some.inj hz
        have := maps_len _ _ _ (List.mem_of_getElem? e)
        rw [List.length_nil, Nat.zero_add] at this
        exact this
  | part p l =>
    unfold Fc05.step
    dsimp only
    by_cases q : 7 < p
    · rw [if_pos q]; exact h
    · rw [if_neg q]
      by_cases q1 : Fc05.right s (Fc05.home p) = false
      · rw [if_pos q1]; exact h
      · rw [if_neg q1]
        by_cases q2 : l.all (fun r => (Fc05.places s.cat (Fc05.instOf s p)).contains r) = false
        · rw [if_pos q2]; exact h
        · rw [if_neg q2]; exact st_withPart h (part_fil _)
  | meet p q o => exact st_made h fun _ _ _ => part_fil _
  | join p q o => exact st_made h fun _ _ _ => part_fil _
  | implies p q o => exact st_made h fun _ _ _ => part_fil _
  | not_ p o => exact st_made h fun _ _ _ => part_fil _
  | forward p o => exact st_moved h fun _ => part_fil _
  | back p o => exact st_moved h fun _ => part_fil _
  | forAll p o => exact st_moved h fun _ => part_fil _
  | within p q => exact h
  | count i => exact h
  | nth p k =>
    unfold Fc05.step
    dsimp only
    by_cases q : 7 < p
    · rw [if_pos q]; exact h
    · rw [if_neg q]
      by_cases q1 : Fc05.right s (Fc05.home p) = false
      · rw [if_pos q1]; exact h
      · rw [if_neg q1]
        cases e : (Fc05.parts s.cat (Fc05.instOf s p))[k]? with
        | none => exact h
        | some z => exact st_withPart h (part_nth (List.mem_of_getElem? e))
  | truth p x r => exact h
  | sieves x => exact h
  | decided p => exact h
  | shows p => exact h
end Im

namespace Im
open PySem PySem.Spec PyProof.Rows L2
/-! ### the line read -/
theorem isL_of {α : Type} [Enc α] {G : Hp} : ∀ {vs : List V} {l : List α}, vs.length = l.length → (∀ (i : Nat) (v : V) (x : α), vs[i]? = some v → l[i]? = some x → Is G v x) → IsL G vs l
  | [], [], _, _ => isL_nil
  | v :: vs, x :: l, h, k => isL_cons (k 0 v x rfl rfl) (isL_of (by simpa using h) fun i u y h1 h2 => k (i + 1) u y h1 h2)
  | [], _ :: _, h, _ => by cases h
  | _ :: _, [], h, _ => by cases h
section
variable {CC CI CL WN ln c : Addr} {G G' : Hp} {s : Fc05.St} {n : Nat} {L : Lay} {m : Fc05.Cat} {t : Fc05.Inst} {A : InsA}
theorem InsOk.at_ (h : InsOk CI G c m t A) (hc : CatAt CC G c m) : InstAt CC CI G A.i c m t := by
  obtain ⟨h1, h2, h3, h4, h5⟩ := h
  refine ⟨A.dx, A.s, A.l, h1, hc, is_nv h2, is_list h3 (isL_of ?_ fun f v x hv hx => ?_)⟩
  · rw [List.length_map, h4]
    unfold leadsOf
    rw [List.length_map, List.length_range]
  · rw [List.getElem?_map] at hv
    obtain ⟨la, hla, rfl⟩ := Option.map_eq_some_iff.mp hv
    have hf : f < m.arrows.length := by
      have := (List.getElem?_eq_some_iff.mp hla).1
      omega
    rw [leads_at hf] at hx
    obtain rfl := Option.some.inj hx
    exact is_nv (h5 f la hla)
theorem LineAt.cat (h : LineAt CC CI CL G ln s n L) : CatAt CC G L.c s.cat := ⟨L.dxc, L.b, L.e, L.d, L.kvs, h.cat_, is_nv h.b_, is_nv h.e_, h.d_, h.made⟩
theorem LineAt.inA (h : LineAt CC CI CL G ln s n L) (ok : StOk s) : InAt CC CI G L.A.i s.cat s.a := ⟨L.c, h.A_.at_ h.cat, ok.cat, ok.ia⟩
theorem LineAt.inB (h : LineAt CC CI CL G ln s n L) (ok : StOk s) : InAt CC CI G L.B.i s.cat s.b := ⟨L.c, h.B_.at_ h.cat, ok.cat, ok.ib⟩
def Lay.ins (L : Lay) (i : Nat) : Addr := if i = 0 then L.A.i else L.B.i
theorem LineAt.inI (h : LineAt CC CI CL G ln s n L) (ok : StOk s) (i : Nat) : InAt CC CI G (L.ins i) s.cat (Fc05.inst s i) := by
  unfold Lay.ins Fc05.inst
  split
  · exact h.inA ok
  · exact h.inB ok
theorem LineAt.up (h : LineAt CC CI CL G ln s n L) : LineAt CC CI CL G ln s (n + 1) L := ⟨h.ln_, h.cat_, h.b_, h.e_, h.d_, h.made, Nat.le_succ_of_le h.kl, h.il_, h.A_, h.B_, h.pl_, h.ps, h.chO, h.nd, h.sep, h.inj⟩
theorem InAt.i {i : Addr} (h : InAt CC CI G i m t) : ∃ c, InstAt CC CI G i c m t := by
  obtain ⟨c, h, _⟩ := h
  exact ⟨c, h⟩
variable {K : PySem.W.Frag} {mg : Str → Option Value} {M : Addr → Prop} {σ : L2.St} {H : Hp} {ta tb : TE} {P : Pr}
theorem ev_Lcat (T : Txt K mg CC CI CL WN) (h : Ev M ta σ H (.val (.ref ln))) (hL : LineAt CC CI CL (hid M H) ln s n L) : Ev M (tFld K ta "category") σ H (.val (.ref L.c)) := ev_fld h hL.ln_ T.cCL T.nCL_category lkCat rfl
theorem ev_Lcho (T : Txt K mg CC CI CL WN) (h : Ev M ta σ H (.val (.ref ln))) (hL : LineAt CC CI CL (hid M H) ln s n L) : Ev M (tFld K ta "chosen") σ H (.val L.ch) := ev_fld h hL.ln_ T.cCL T.nCL_chosen lkCho rfl
theorem ev_Lpar (T : Txt K mg CC CI CL WN) (h : Ev M ta σ H (.val (.ref ln))) (hL : LineAt CC CI CL (hid M H) ln s n L) : Ev M (tFld K ta "parts") σ H (.is s.parts) := ev_fld h hL.ln_ T.cCL T.nCL_parts lkPar (is_list hL.pl_ hL.ps)
theorem ev_Lins {i : Nat} (T : Txt K mg CC CI CL WN) (h : Ev M ta σ H (.val (.ref ln))) (hL : LineAt CC CI CL (hid M H) ln s n L) (hi : i < 2) (hb : Ev M tb σ H (.is i)) : Ev M (tOp (rIxL K) (tFld K ta "instances") tb) σ H (.val (.ref (L.ins i))) :=
  fun H1 e Q q => ev_fld (P := .val (.ref L.il)) h hL.ln_ T.cCL T.nCL_instances lkIns rfl H1 e _ fun w H2 e2 hw => hb H2 (e.trans e2) _ fun z H3 e3 hz => by
    obtain rfl : w = .ref L.il := hw
    obtain rfl := Is.nat hz
    refine ⟨L.il, _, _, .ref (L.ins i), rfl, rfl, SqL.of (hid_sub _ _ (hid_mono ((e.trans e2).trans e3) _ _ hL.il_)), atI_nat ?_, q _ H3 (e2.trans e3) rfl⟩
    have : i = 0 ∨ i = 1 := by omega
    rcases this with rfl | rfl <;> rfl
theorem ev_methL {pre : List V → Hp → Pr → Prop} {tr : TA} {ps : List Pr} {k : Str} (hM : Tr M H) (ho : Ev M ta σ H (.val (.ref ln))) (hL : LineAt CC CI CL (hid M H) ln s n L) (h1 : (k == ("category" : Str)) = false) (h2 : (k == ("instances" : Str)) = false) (h3 : (k == ("parts" : Str)) = false) (h4 : (k == ("chosen" : Str)) = false) (ha : EvA M tr σ H ps)
    (hs : ∀ vs H1, Same H H1 → AllP ps vs (hid M H1) → pre (.ref ln :: vs) (hid M H1) P) : Ev M (tMeth CL k (SpP pre) [] E0 ta tr) σ H P := ev_meth hM ho hL.ln_ (lineF_none h1 h2 h3 h4) ha hs
theorem ev_has_instance {i : Nat} (hM : Tr M H) (ho : Ev M ta σ H (.val (.ref ln))) (hL : LineAt CC CI CL (hid M H) ln s n L) (hi : Ev M tb σ H (.is i)) : Ev M (tMeth CL "has_instance" (sp_has_instance CC CI CL) [] E0 ta (tCons tb tNil)) σ H (.is (decide (i < 2))) :=
  ev_methL hM ho hL (by decide) (by decide) (by decide) (by decide) (ea_cons hi ea_nil) fun vs H1 e hv => by
    obtain ⟨u, rfl, q⟩ := hv.one
    obtain rfl := Is.nat q
    exact ⟨ln, i, rfl, rfl⟩
theorem ev_is_part_of {tc : TE} {p i : Nat} (hM : Tr M H) (ho : Ev M ta σ H (.val (.ref ln))) (hL : LineAt CC CI CL (hid M H) ln s n L) (hp : Ev M tb σ H (.is p)) (hi : Ev M tc σ H (.is i)) : Ev M (tMeth CL "is_part_of" (sp_is_part_of CC CI CL) [] E0 ta (tCons tb (tCons tc tNil))) σ H (.is (decide (p / 4 = i))) :=
  ev_methL hM ho hL (by decide) (by decide) (by decide) (by decide) (ea_cons hp (ea_cons hi ea_nil)) fun vs H1 e hv => by
    obtain ⟨u, w, rfl, q, q'⟩ := hv.two
    obtain rfl := Is.nat q
    obtain rfl := Is.nat q'
    exact ⟨ln, p, i, rfl, rfl⟩
theorem ev_share_instance {ns : List Nat} (hM : Tr M H) (ho : Ev M ta σ H (.val (.ref ln))) (hL : LineAt CC CI CL (hid M H) ln s n L) (hne : ns ≠ []) (hp : Ev M tb σ H (.is ns)) : Ev M (tMeth CL "share_instance" (sp_share_instance CC CI CL) [] E0 ta (tCons tb tNil)) σ H (.is (shareB ns)) :=
  ev_methL hM ho hL (by decide) (by decide) (by decide) (by decide) (ea_cons hp ea_nil) fun vs H1 e hv => by
    obtain ⟨u, rfl, q⟩ := hv.one
    exact ⟨ln, ns, u, rfl, q, hne, rfl⟩
theorem ev_instance_of {p : Nat} (hM : Tr M H) (ho : Ev M ta σ H (.val (.ref ln))) (hL : LineAt CC CI CL (hid M H) ln s n L) (hp8 : p < 8) (hp : Ev M tb σ H (.is p)) : Ev M (tMeth CL "instance_of" (sp_instance_of CC CI CL) [] E0 ta (tCons tb tNil)) σ H (.val (.ref (L.ins (Fc05.home p)))) :=
  ev_methL hM ho hL (by decide) (by decide) (by decide) (by decide) (ea_cons hp ea_nil) fun vs H1 e hv => by
    obtain ⟨u, rfl, q⟩ := hv.one
    obtain rfl := Is.nat q
    have hL1 := hL.mono (hid_mono (M := M) e)
    refine ⟨ln, L.dxl, L.c, L.il, L.pl, L.A.i, L.B.i, L.ch, p, rfl, hL1.ln_, hL1.il_, hp8, ?_⟩
    unfold Lay.ins Fc05.home
    by_cases q : p < 4
    · rw [if_pos q, if_pos q, if_pos rfl]
    · rw [if_neg q, if_neg q, if_neg (by decide)]
end
def refB (s : Fc05.St) (ns : List Nat) : Int := if shareB ns = false then -2 else if rightB s.cat (Fc05.instOf s (ns.headD 0)) = true then 0 else -6
def refA (s : Fc05.St) (p i o j : Nat) : Int := if ¬ p / 4 = i ∨ ¬ o / 4 = j then -2 else if s.way = none then -6 else 0
def sp_refusal_of_parts (CC CI CL : Addr) : Sp := SpP fun vs G P => ∃ (ln : Addr) (s : Fc05.St) (n : Nat) (L : Lay) (ns : List Nat) (v : V), vs = [.ref ln, v] ∧ LineAt CC CI CL G ln s n L ∧ StOk s ∧ Is G v ns ∧ ns ≠ [] ∧ P = .is (refB s ns)
def sp_refusal_along (CC CI CL : Addr) : Sp := SpP fun vs G P => ∃ (ln : Addr) (s : Fc05.St) (n : Nat) (L : Lay) (p i o j : Nat), vs = [.ref ln, .int p, .int i, .int o, .int j] ∧ LineAt CC CI CL G ln s n L ∧ P = .is (refA s p i o j)
def sp_chosen_moves (CC CI CL : Addr) : Sp := SpP fun vs G P => ∃ (ln : Addr) (s : Fc05.St) (n : Nat) (L : Lay) (mp : List Nat), vs = [.ref ln] ∧ LineAt CC CI CL G ln s n L ∧ StOk s ∧ s.way = some mp ∧ P = .is (movesL s.cat s.a mp)
section
variable {CC CI CL WN ln : Addr} {s : Fc05.St} {n : Nat} {L : Lay} {K : PySem.W.Frag} {mg : Str → Option Value} {M : Addr → Prop} {σ : L2.St} {H : Hp} {ta tb tx ty tz : TE} {P : Pr}
theorem ev_refusal_of_parts {ns : List Nat} (hM : Tr M H) (ho : Ev M ta σ H (.val (.ref ln))) (hL : LineAt CC CI CL (hid M H) ln s n L) (ok : StOk s) (hne : ns ≠ []) (hp : Ev M tb σ H (.is ns)) : Ev M (tCall (sp_refusal_of_parts CC CI CL) [] E0 (tCons ta (tCons tb tNil))) σ H (.is (refB s ns)) :=
  ev_call hM (ea_cons ho (ea_cons hp ea_nil)) fun vs H1 e hv => by
    obtain ⟨u, w, rfl, q1, q2⟩ := hv.two
    obtain rfl : u = .ref ln := q1
    exact ⟨ln, s, n, L, ns, w, rfl, hL.mono (hid_mono e), ok, q2, hne, rfl⟩
theorem ev_refusal_along {p i o j : Nat} (hM : Tr M H) (ho : Ev M ta σ H (.val (.ref ln))) (hL : LineAt CC CI CL (hid M H) ln s n L) (h1 : Ev M tb σ H (.is p)) (h2 : Ev M tx σ H (.is i)) (h3 : Ev M ty σ H (.is o)) (h4 : Ev M tz σ H (.is j)) : Ev M (tCall (sp_refusal_along CC CI CL) [] E0 (tCons ta (tCons tb (tCons tx (tCons ty (tCons tz tNil)))))) σ H (.is (refA s p i o j)) :=
  ev_call hM (ea_cons ho (ea_cons h1 (ea_cons h2 (ea_cons h3 (ea_cons h4 ea_nil))))) fun vs H1 e hv => by
    match vs, hv with
    | [v0, v1, v2, v3, v4], ⟨q0, q1, q2, q3, q4, _⟩ =>
      obtain rfl : v0 = .ref ln := q0
      obtain rfl := Is.nat q1
      obtain rfl := Is.nat q2
      obtain rfl := Is.nat q3
      obtain rfl := Is.nat q4
      exact ⟨ln, s, n, L, p, i, o, j, rfl, hL.mono (hid_mono e), rfl⟩
theorem ev_chosen_moves {mp : List Nat} (hM : Tr M H) (ho : Ev M ta σ H (.val (.ref ln))) (hL : LineAt CC CI CL (hid M H) ln s n L) (ok : StOk s) (hw : s.way = some mp) : Ev M (tCall (sp_chosen_moves CC CI CL) [] E0 (tCons ta tNil)) σ H (.is (movesL s.cat s.a mp)) :=
  ev_call hM (ea_cons ho ea_nil) fun vs H1 e hv => by
    obtain ⟨u, rfl, q1⟩ := hv.one
    obtain rfl : u = .ref ln := q1
    exact ⟨ln, s, n, L, mp, rfl, hL.mono (hid_mono e), ok, hw, rfl⟩
theorem et_isV {v : V} (h : Ev M ta σ H (.val v)) : EvT (tTest (tOp (fun x y H Q => y = V.non ∧ Q (V.bl (decide (x = V.non))) H) ta (tC V.non))) σ H (decide (v = .non)) := fun H1 e Q q => h H1 e _ fun w H2 e2 hw => by
  obtain rfl : w = v := hw
  exact ⟨rfl, ⟨_, rfl, q H2 e2⟩⟩
end
section
variable {P : Program} {w : World} {K : PySem.W.Frag} {mg : Str → Option Value} {base : Heap} {CC CI CL WN : Addr}
theorem ok_refusal_of_parts {f : Addr} {fd : FuncData} (F : Fun K "refusal_of_parts" "refusal_of_parts" s_refusal_of_parts f fd) (T : Txt K mg CC CI CL WN) (g_is_right : MetOk P w K mg base CI 5 "is_right" ["self"] (sp_is_right CC CI CL)) (g_instance_of : MetOk P w K mg base CL 1 "instance_of" ["self", "p"] (sp_instance_of CC CI CL)) (g_share_instance : MetOk P w K mg base CL 1 "share_instance" ["self", "numbers"] (sp_share_instance CC CI CL)) : FnOk P w K mg base CX0 6 f fd ["line", "numbers"] (sp_refusal_of_parts CC CI CL) := by
  refine F.ok sc_refusal_of_parts (fun vs H Q E h => ?_) (fun cdv A outer s H vs Q E hr h => ⟨_, (pss_cons (ps_if (pt_not (pt_val (pe_methD (pv 0) T.cCL g_share_instance (hr.mono (by decide)) (pa_cons (pv 1) pa_nil)))) (pss_one (ps_ret (pe_gI T.c_NO_SUCH_PART rfl))) pss_nil)
    (pss_cons (ps_if (pt_not (pt_val (pe_methD0 (pe_methD (pv 0) T.cCL g_instance_of (hr.mono (by decide)) (pa_cons (pe_ix ix_list (pv 1) pe_int (fun _ _ => rfl)) pa_nil)) T.cCI g_is_right (hr.mono (by decide))))) (pss_one (ps_ret (pe_gI T.c_NOT_RIGHT rfl))) pss_nil)
    (pss_one (ps_ret (pe_gI T.c_NOT_REFUSED rfl))))), ?_⟩)
  · obtain ⟨_, _, _, ⟨_, _, _, _, _, _, rfl, _⟩, _⟩ := h
    rfl
  · obtain ⟨M, P, hM, ⟨ln, s, n, L, ns, v, rfl, hL, ok, hv, hne, rfl⟩, k⟩ := h
    obtain ⟨n0, r, rfl⟩ : ∃ n0 r, ns = n0 :: r := by
      cases ns with
      | nil => exact absurd rfl hne
      | cons a r => exact ⟨a, r, rfl⟩
    refine s_ifN (et_not (et_B (M := M) (ev_share_instance (ns := n0 :: r) hM (ev_o rfl) hL (fun z => nomatch z) (ev_d rfl hv)))) (fun hb H1 e1 => ?_) fun hb H1 e1 => ?_
    · have hb' : shareB (n0 :: r) = false := by simpa using hb
      exact s_rk k e1 ((ev_cz (z := -2)).eq (by unfold refB; rw [if_pos hb']))
    · have hb' : shareB (n0 :: r) = true := by simpa using hb
      have h8 : n0 < 8 := by
        have h1 := List.all_eq_true.mp hb' n0 (List.mem_cons_self ..)
        simp at h1
        omega
      have hM1 := hM.mono e1
      have hL1 := hL.mono (hid_mono (M := M) e1)
      obtain ⟨c', hi, _, io⟩ := hL1.inI ok (Fc05.home n0)
      refine s_ifN (et_not (et_B (M := M) (ev_is_right hM1 (ev_instance_of hM1 (ev_o rfl) hL1 h8 (ev_ixL (ev_d rfl (Is.mono (hid_mono e1) hv)) (ev_cn (n := 0)) rfl)) hi ok.cat io))) (fun hb2 H2 e2 => ?_) fun hb2 H2 e2 => ?_
      · have hb3 : ¬ rightB s.cat (Fc05.instOf s n0) = true := by
          have h : (!rightB s.cat (Fc05.instOf s n0)) = true := hb2
          simpa using h
        exact s_rk k (e1.trans e2) ((ev_cz (z := -6)).eq (by
          unfold refB
          rw [if_neg (by rw [hb']; decide)]
          exact (if_neg hb3).symm))
      · have hb3 : rightB s.cat (Fc05.instOf s n0) = true := by
          have h : (!rightB s.cat (Fc05.instOf s n0)) = false := hb2
          simpa using h
        exact s_rk k (e1.trans e2) ((ev_cz (z := 0)).eq (by
          unfold refB
          rw [if_neg (by rw [hb']; decide)]
          exact (if_pos hb3).symm))
theorem ok_refusal_along {f : Addr} {fd : FuncData} (F : Fun K "refusal_along" "refusal_along" s_refusal_along f fd) (T : Txt K mg CC CI CL WN) (g_is_part_of : MetOk P w K mg base CL 1 "is_part_of" ["self", "p", "i"] (sp_is_part_of CC CI CL)) : FnOk P w K mg base CX0 2 f fd ["line", "p", "i", "o", "j"] (sp_refusal_along CC CI CL) := by
  refine F.ok sc_refusal_along (fun vs H Q E h => ?_) (fun cdv A outer s H vs Q E hr h => ⟨_, (pss_cons (ps_if (PW.pt (pw_or (pt_not (pt_val (pe_methD (pv 0) T.cCL g_is_part_of (hr.mono (by decide)) (pa_cons (pv 1) (pa_cons (pv 2) pa_nil))))) (pw_or1 (pt_not (pt_val (pe_methD (pv 0) T.cCL g_is_part_of (hr.mono (by decide)) (pa_cons (pv 3) (pa_cons (pv 4) pa_nil)))))))) (pss_one (ps_ret (pe_gI T.c_NO_SUCH_PART rfl))) pss_nil)
    (pss_cons (ps_if (pt_cmpR op_isN (pe_fld (pv 0) rfl) pe_non (nomark _)) (pss_one (ps_ret (pe_gI T.c_NO_MAP_CHOSEN rfl))) pss_nil)
    (pss_one (ps_ret (pe_gI T.c_NOT_REFUSED rfl))))), ?_⟩)
  · obtain ⟨_, _, _, ⟨_, _, _, _, _, _, _, _, rfl, _⟩, _⟩ := h
    rfl
  · obtain ⟨M, P, hM, ⟨ln, s, n, L, p, i, o, j, rfl, hL, rfl⟩, k⟩ := h
    refine s_ifN (et_or (et_not (et_B (M := M) (ev_is_part_of hM (ev_o rfl) hL (ev_n rfl) (ev_n rfl)))) fun _ => et_not (et_B (M := M) (ev_is_part_of hM (ev_o rfl) hL (ev_n rfl) (ev_n rfl)))) (fun hb H1 e1 => ?_) fun hb H1 e1 => ?_
    · have hb' : ¬ p / 4 = i ∨ ¬ o / 4 = j := by simpa using hb
      exact s_rk k e1 ((ev_cz (z := -2)).eq (by unfold refA; rw [if_pos hb']))
    · have hb' : ¬ (¬ p / 4 = i ∨ ¬ o / 4 = j) := by simpa using hb
      have hL1 := hL.mono (hid_mono (M := M) e1)
      refine s_ifN (et_isV (M := M) (ev_Lcho T (ev_o rfl) hL1)) (fun hb2 H2 e2 => ?_) fun hb2 H2 e2 => ?_
      · have hw : s.way = none := by
          rcases hL.chO with h | ⟨mp, h1, h2⟩
          · exact h.1
          · obtain ⟨a, _, h3, _⟩ := Is.list h2
            have := of_decide_eq_true hb2
            rw [h3] at this
            cases this
        exact s_rk k (e1.trans e2) ((ev_cz (z := -6)).eq (by unfold refA; rw [if_neg hb', if_pos hw]))
      · have hw : ¬ s.way = none := by
          rcases hL.chO with h | ⟨mp, h1, h2⟩
          · exact absurd h.2 (of_decide_eq_false hb2)
          · rw [h1]
            exact fun z => nomatch z
        exact s_rk k (e1.trans e2) ((ev_cz (z := 0)).eq (by unfold refA; rw [if_neg hb', if_neg hw]))
theorem ok_chosen_moves {f : Addr} {fd : FuncData} (F : Fun K "chosen_moves" "chosen_moves" s_chosen_moves f fd) (T : Txt K mg CC CI CL WN) (g_moves_of_map : DefOk P w K mg base 2 "moves_of_map" ["source", "numbers"] (sp_moves_of_map CC CI CL)) : FnOk P w K mg base CX0 3 f fd ["line"] (sp_chosen_moves CC CI CL) := by
  refine F.ok sc_chosen_moves (fun vs H Q E h => ?_) (fun cdv A outer s H vs Q E hr h => ⟨_, (pss_one (ps_ret (pe_callD g_moves_of_map (hr.mono (by decide)) rfl (pa_cons (pe_ix ix_list (pe_fld (pv 0) rfl) pe_int (fun _ _ => rfl)) (pa_cons (pe_fld (pv 0) rfl) pa_nil))))), ?_⟩)
  · obtain ⟨_, _, _, ⟨_, _, _, _, _, rfl, _⟩, _⟩ := h
    rfl
  · obtain ⟨M, P, hM, ⟨ln, s, n, L, mp, rfl, hL, ok, hw, rfl⟩, k⟩ := h
    have hch : Is (hid M H) L.ch mp := by
      rcases hL.chO with h | ⟨mp', h1, h2⟩
      · rw [hw] at h
        cases h.1
      · rw [hw] at h1
        obtain rfl := Option.some.inj h1
        exact h2
    exact s_rk k (Same.refl _) (ev_moves_of_map hM (ev_Lins T (ev_o rfl) hL (by decide) (ev_cn (n := 0))) (hL.inA ok) (ok.wy mp hw) (ev_ref (a := ln) (ev_Lcho T (ev_o rfl) hL) hch))
end
end Im

namespace Im
open PySem PySem.Spec PyProof.Rows L2
/-! ### data that is kept while a list of another kind changes -/
def NotP (G : Hp) (xs : List V) : Prop := ∃ y ys, xs = y :: ys ∧ ∀ a ts, y = .ref a → G a ≠ some (.tup ts)
section
variable {G : Hp} {x : Addr} {o u : HO} {xs : List V} {v : V}
theorem isR_upd {r : Nat × Nat} (hx : ∀ ts, G x ≠ some (.tup ts)) (h : Is G v r) : Is (upd G x o) v r := by
  obtain ⟨a, u, w, rfl, h1, h2, h3⟩ := Is.pair (x := r.1) (y := r.2) h
  obtain rfl := Is.nat h2
  obtain rfl := Is.nat h3
  refine is_pair (x := r.1) (y := r.2) ?_ is_nat is_nat
  rw [upd_ne fun z => hx _ (by rw [← z]; exact h1)]
  exact h1
theorem isRs_upd (hx : ∀ ts, G x ≠ some (.tup ts)) : ∀ {p : List (Nat × Nat)} {vs : List V}, IsL G vs p → IsL (upd G x o) vs p
  | [], _, h => by cases h; exact isL_nil
  | r :: p, _, h => by
    cases h with
    | cons h1 h2 => exact isL_cons (isR_upd hx h1) (isRs_upd hx h2)
theorem isP_upd {p : List (Nat × Nat)} (hx : G x = some (.lst xs)) (hn : NotP G xs) (h : Is G v p) : Is (upd G x o) v p := by
  obtain ⟨a, vs, rfl, h1, h2⟩ := Is.list h
  have hne : a ≠ x := fun z => by
    obtain ⟨y, ys, e, hy⟩ := hn
    rw [z, hx] at h1
    injection h1 with h1
    injection h1 with h1
    subst h1
    subst e
    cases p with
    | nil =>
      have := h2.length
      cases this
    | cons r p =>
      cases h2 with
      | cons q1 q2 =>
        obtain ⟨b, _, _, rfl, q3, _⟩ := Is.pair (x := r.1) (y := r.2) q1
        exact hy b _ rfl q3
  refine is_list (vs := vs) ?_ (isRs_upd (fun ts z => by rw [hx] at z; cases z) h2)
  rw [upd_ne hne]
  exact h1
theorem isP_upd' {p : List (Nat × Nat)} (hx : G x = some u) (h1 : ∀ xs, u ≠ .lst xs) (h2 : ∀ ts, u ≠ .tup ts) (h : Is G v p) : Is (upd G x o) v p := by
  obtain ⟨a, vs, rfl, h3, h4⟩ := Is.list h
  refine is_list (vs := vs) ?_ (isRs_upd (fun ts z => by rw [hx] at z; injection z with z; exact h2 _ z) h4)
  rw [upd_ne fun z => by rw [z, hx] at h3; injection h3 with h3; exact h1 _ h3]
  exact h3
theorem isPs_map {G G' : Hp} (f : ∀ {v : V} {p : List (Nat × Nat)}, Is G v p → Is G' v p) : ∀ {ps : List (List (Nat × Nat))} {vs : List V}, IsL G vs ps → IsL G' vs ps
  | [], _, h => by cases h; exact isL_nil
  | p :: ps, _, h => by
    cases h with
    | cons h1 h2 => exact isL_cons (f h1) (isPs_map f h2)
theorem isN_upd {l : List Nat} {a : Addr} {ys : List V} (hx : G x = some (.lst (.ref a :: ys))) (h : Is G v l) : Is (upd G x o) v l := by
  obtain ⟨b, vs, rfl, h1, h2⟩ := Is.list h
  obtain rfl := h2.nats
  refine is_nv ?_
  rw [upd_ne fun z => ?_]
  · exact h1
  · rw [z, hx] at h1
    injection h1 with h1
    injection h1 with h1
    cases l with
    | nil => cases h1
    | cons n l => cases h1
theorem isN_upd' {l : List Nat} (hx : G x = some u) (h1 : ∀ xs, u ≠ .lst xs) (h : Is G v l) : Is (upd G x o) v l := by
  obtain ⟨b, vs, rfl, h3, h2⟩ := Is.list h
  obtain rfl := h2.nats
  refine is_nv ?_
  rw [upd_ne fun z => by rw [z, hx] at h3; injection h3 with h3; exact h1 _ h3]
  exact h3
theorem ChO.upd {ch : V} {way : Option (List Nat)} (f : ∀ {l : List Nat}, Is G ch l → Is (upd G x o) ch l) (h : ChO G ch way) : ChO (upd G x o) ch way := by
  rcases h with h | ⟨mp, h1, h2⟩
  · exact .inl h
  · exact .inr ⟨mp, h1, f h2⟩
end
theorem ne_at {l : List Addr} (hn : l.Nodup) {i j : Nat} {x y : Addr} (a : l[i]? = some x) (b : l[j]? = some y) (h : i ≠ j) : x ≠ y := fun z => h (nd_ix hn a (by rw [z]; exact b))
theorem hid_upd_no {M : Addr → Prop} {H : Hp} {a : Addr} {o : HO} (h : ¬ M a) : hid M (upd H a o) = upd (hid M H) a o := by
  funext b
  by_cases q : M b
  · rw [hid_yes q, upd_ne fun z => h (by rw [← z]; exact q), hid_yes q]
  · rw [hid_no q]
    unfold upd
    by_cases z : b = a
    · rw [if_pos z, if_pos z]
    · rw [if_neg z, if_neg z, hid_no q]
def Keep (M : Addr → Prop) (H H' : Hp) : Prop := ∀ a o, M a → H a = some o → H' a = some o
theorem Keep.of {M : Addr → Prop} {H H' : Hp} (e : Same H H') : Keep M H H' := fun a o _ h => e a o h
theorem Keep.trans {M : Addr → Prop} {H H1 H2 : Hp} (a : Keep M H H1) (b : Keep M H1 H2) : Keep M H H2 := fun x o m h => b x o m (a x o m h)
theorem Keep.upd {M : Addr → Prop} {H : Hp} {a : Addr} {o : HO} (h : ¬ M a) : Keep M H (upd H a o) := fun x u m e => by
  rw [upd_ne fun z => h (by rw [← z]; exact m)]
  exact e
theorem Keep.tr {M : Addr → Prop} {H H' : Hp} (k : Keep M H H') (t : Tr M H) : Tr M H' := fun a m z => by
  cases e : H a with
  | none => exact t a m e
  | some o =>
    rw [k a o m e] at z
    cases z
section
variable {CC CI CL ln : Addr} {G : Hp} {s : Fc05.St} {n : Nat} {L : Lay}
theorem LineAt.notP (h : LineAt CC CI CL G ln s n L) (h8 : s.parts.length = 8) : NotP G L.pvs ∧ ∃ a ys, L.pvs = .ref a :: ys := by
  have hp := h.ps
  have hl := hp.length
  rw [h8] at hl
  cases e : L.pvs with
  | nil => rw [e] at hl; cases hl
  | cons y ys =>
    rw [e] at hp
    cases e2 : s.parts with
    | nil => rw [e2] at h8; cases h8
    | cons p ps =>
      rw [e2] at hp
      cases hp with
      | cons q1 q2 =>
        obtain ⟨a, vs, rfl, h1, _⟩ := Is.list (show Is G y p from q1)
        refine ⟨⟨_, _, rfl, fun b ts hb z => ?_⟩, a, ys, rfl⟩
        injection hb with hb
        rw [← hb, h1] at z
        cases z
/-- line.parts[o] = v -/
theorem LineAt.put (h : LineAt CC CI CL G ln s n L) (h8 : s.parts.length = 8) {o : Nat} {v : V} {p : List (Nat × Nat)} (hv : Is G v p) :
    LineAt CC CI CL (upd G L.pl (.lst (L.pvs.set o v))) ln { s with parts := s.parts.set o p } n { L with pvs := L.pvs.set o v } ∧ Is (upd G L.pl (.lst (L.pvs.set o v))) v p := by
  obtain ⟨np, a, ys, hys⟩ := h.notP h8
  have pl_ := h.pl_
  have keepP : ∀ {v : V} {p : List (Nat × Nat)}, Is G v p → Is (upd G L.pl (.lst (L.pvs.set o v))) v p := fun q => isP_upd pl_ np q
  have keepP' : ∀ {u : V} {p : List (Nat × Nat)}, Is G u p → Is (upd G L.pl (.lst (L.pvs.set o v))) u p := fun q => isP_upd pl_ np q
  have kn : ∀ {a : Addr} {u : HO}, G a = some u → (∀ xs, u ≠ .lst xs) → upd G L.pl (.lst (L.pvs.set o v)) a = some u := fun {a u} h1 h2 => by
    rw [upd_ne (ne_of h1 pl_ (h2 _))]
    exact h1
  have kc : ∀ {a : Addr} {u : HO}, G a = some u → a ≠ L.pl → upd G L.pl (.lst (L.pvs.set o v)) a = some u := fun h1 h2 => by
    rw [upd_ne h2]
    exact h1
  have nd := h.nd
  have c0 : L.b ≠ L.pl := ne_at nd (i := 0) (j := 3) rfl rfl (by decide)
  have c1 : L.e ≠ L.pl := ne_at nd (i := 1) (j := 3) rfl rfl (by decide)
  have c2 : L.il ≠ L.pl := ne_at nd (i := 2) (j := 3) rfl rfl (by decide)
  have c4 : L.A.s ≠ L.pl := ne_at nd (i := 4) (j := 3) rfl rfl (by decide)
  have c5 : L.A.l ≠ L.pl := ne_at nd (i := 5) (j := 3) rfl rfl (by decide)
  have c6 : L.B.s ≠ L.pl := ne_at nd (i := 6) (j := 3) rfl rfl (by decide)
  have c7 : L.B.l ≠ L.pl := ne_at nd (i := 7) (j := 3) rfl rfl (by decide)
  have cl : ∀ la, la ∈ L.A.las ++ L.B.las → la ≠ L.pl := fun la hla z => h.sep la hla (by rw [z]; unfold Lay.cells; simp)
  have insk : ∀ {t : Fc05.Inst} {A : InsA}, InsOk CI G L.c s.cat t A → A.s ≠ L.pl → A.l ≠ L.pl → (∀ la ∈ A.las, la ≠ L.pl) → InsOk CI (upd G L.pl (.lst (L.pvs.set o v))) L.c s.cat t A := fun {t A} q q1 q2 q3 => q.fr fun a ha u hu => by
    rcases List.mem_cons.mp ha with rfl | ha
    · rw [q.1] at hu
      injection hu with hu
      subst hu
      exact kn q.1 fun _ z => nomatch z
    · rcases List.mem_cons.mp ha with rfl | ha
      · exact kc hu q1
      · rcases List.mem_cons.mp ha with rfl | ha
        · exact kc hu q2
        · exact kc hu (q3 a ha)
  refine ⟨⟨kn h.ln_ (fun _ z => nomatch z), kn h.cat_ (fun _ z => nomatch z), kc h.b_ c0, kc h.e_ c1, kn h.d_ (fun _ z => nomatch z), h.made, h.kl, kc h.il_ c2, insk h.A_ c4 c5 fun la hla => cl la (List.mem_append_left _ hla), insk h.B_ c6 c7 fun la hla => cl la (List.mem_append_right _ hla), upd_same, ?_, h.chO.upd fun q => isN_upd (by rw [pl_, hys]) q, h.nd, h.sep, fun k k' la h1 h2 => (h.inj k k' la h1 h2).imp id fun q => kc q (cl la (List.mem_of_getElem? h1))⟩, keepP' hv⟩
  exact (isPs_map keepP' h.ps).set (keepP' hv)
/-- line.chosen = ch -/
theorem LineAt.cho (h : LineAt CC CI CL G ln s n L) {ch : V} {way : Option (List Nat)} (hw : ChO G ch way) :
    LineAt CC CI CL (upd G ln (.ins CL L.dxl (lineF L.c L.il L.pl ch))) ln { s with way := way } n { L with ch := ch } := by
  have hln := h.ln_
  have kl : ∀ {a : Addr} {xs : List V}, G a = some (.lst xs) → upd G ln (.ins CL L.dxl (lineF L.c L.il L.pl ch)) a = some (.lst xs) := fun h1 => by
    rw [upd_ne (ne_of h1 hln fun z => nomatch z)]
    exact h1
  have ki : ∀ {a C dx : Addr} {fs : List (Str × V)}, G a = some (.ins C dx fs) → fs ≠ lineF L.c L.il L.pl L.ch → upd G ln (.ins CL L.dxl (lineF L.c L.il L.pl ch)) a = some (.ins C dx fs) := fun {a C dx fs} h1 h2 => by
    rw [upd_ne (ne_of h1 hln fun z => by injection z with _ _ z; exact h2 z)]
    exact h1
  have nI : ∀ {c s l : Addr}, instF c s l ≠ lineF L.c L.il L.pl L.ch := fun z => by
    have := congrArg List.length z
    cases this
  have nC : ∀ {n : Nat} {b e d : Addr}, catF n b e d ≠ lineF L.c L.il L.pl L.ch := fun z => by
    unfold catF lineF at z
    injection z with z _
    injection z with z _
    exact absurd z (by decide)
  have insk : ∀ {t : Fc05.Inst} {A : InsA}, InsOk CI G L.c s.cat t A → InsOk CI (upd G ln (.ins CL L.dxl (lineF L.c L.il L.pl ch))) L.c s.cat t A := fun {t A} q => ⟨ki q.1 nI, kl q.2.1, kl q.2.2.1, q.2.2.2.1, fun f la hf => kl (q.2.2.2.2 f la hf)⟩
  refine ⟨upd_same, ki h.cat_ nC, kl h.b_, kl h.e_, ?_, h.made, h.kl, kl h.il_, insk h.A_, insk h.B_, kl h.pl_, isPs_map (fun q => isP_upd' hln (fun _ z => nomatch z) (fun _ z => nomatch z) q) h.ps, hw.upd fun q => isN_upd' hln (fun _ z => nomatch z) q, h.nd, h.sep, fun k k' la h1 h2 => (h.inj k k' la h1 h2).imp id fun q => kl q⟩
  rw [upd_ne (ne_of h.d_ hln fun z => nomatch z)]
  exact h.d_
end
/-! ### the calls' promises -/
def SpL (CC CI CL : Addr) (args : List V → Hp → Fc05.Call → Prop) : Sp := fun vs H Q _ => ∃ (M : Addr → Prop) (ln : Addr) (s : Fc05.St) (n : Nat) (L : Lay) (rest : List V) (k : Fc05.Call), vs = .ref ln :: rest ∧ Tr M H ∧ args rest (hid M H) k ∧ LineAt CC CI CL (hid M H) ln s n L ∧ StOk s ∧ n ≤ 10000 ∧
  ∀ u H' L', Keep M H H' → LineAt CC CI CL (hid M H') ln (Fc05.step s k).1 (n + 1) L' → Is (hid M H') u (Fc05.step s k).2 → Q u H'
def sp_put_part (CC CI CL : Addr) : Sp := fun vs H Q _ => ∃ (M : Addr → Prop) (ln : Addr) (s : Fc05.St) (n : Nat) (L : Lay) (o : Nat) (p : List (Nat × Nat)) (v : V), vs = [.ref ln, .int o, v] ∧ Tr M H ∧ LineAt CC CI CL (hid M H) ln s n L ∧ s.parts.length = 8 ∧ o < 8 ∧ Is (hid M H) v p ∧ p.length ≤ 1000 ∧
  ∀ u H' L', Keep M H H' → LineAt CC CI CL (hid M H') ln (Fc05.withPart s o p).1 (n + 1) L' → Is (hid M H') u (Fc05.withPart s o p).2 → Q u H'
/-- a call that changes nothing ends -/
theorem s_rq {CC CI CL ln : Addr} {M : Addr → Prop} {σ : L2.St} {H0 H : Hp} {te : TE} {D : Ends} {s : Fc05.St} {n : Nat} {L : Lay} {k : Fc05.Call} {ans : List Int} (kk : ∀ u H' L', Keep M H0 H' → LineAt CC CI CL (hid M H') ln (Fc05.step s k).1 (n + 1) L' → Is (hid M H') u (Fc05.step s k).2 → D.rt u H') (hL : LineAt CC CI CL (hid M H0) ln s n L) (e : Same H0 H) (hs : Fc05.step s k = (s, ans)) (h : Ev M te σ H (.is ans)) : tRet te D σ H :=
  s_ret h fun v H1 e1 hv => kk v H1 L (Keep.of (e.trans e1)) (by rw [hs]; exact (hL.mono (hid_mono (e.trans e1))).up) (by rw [hs]; exact hv)
/-- a refusal -/
theorem ev_ref1 {M : Addr → Prop} {σ : L2.St} {H : Hp} {te : TE} {z : Int} (hM : Tr M H) (h : Ev M te σ H (.is z)) : Ev M (tLst (tCons te tNil)) σ H (.is [z]) := ev_lst1 hM h
theorem Ev.z {M : Addr → Prop} {σ : L2.St} {H : Hp} {te : TE} {n : Nat} (h : Ev M te σ H (.is n)) : Ev M te σ H (.is (n : Int)) := h.imp fun u H1 e hu => by
  obtain rfl := Is.nat hu
  exact is_int
theorem Ev.zs {M : Addr → Prop} {σ : L2.St} {H : Hp} {te : TE} {l : List Nat} (h : Ev M te σ H (.is l)) : Ev M te σ H (.is (Fc05.ints l)) := h.imp fun u H1 e hu => is_natInt hu
section
variable {P : Program} {w : World} {K : PySem.W.Frag} {mg : Str → Option Value} {base : Heap} {CC CI CL WN : Addr}
theorem ok_put_part {f : Addr} {fd : FuncData} (F : Fun K "put_part" "put_part" s_put_part f fd) (T : Txt K mg CC CI CL WN) (g_told_part : DefOk P w K mg base 1 "told_part" ["part"] (sp_told_part CC CI CL)) : FnOk P w K mg base CX0 2 f fd ["line", "o", "part"] (sp_put_part CC CI CL) := by
  refine F.ok sc_put_part (fun vs H Q E h => ?_) (fun cdv A outer s H vs Q E hr h => ⟨_, (pss_cons (ps_asg (pv 2) (pg_sub (pe_fld (pv 0) rfl) (pv 1) set_list))
    (pss_one (ps_ret (pe_callD g_told_part (hr.mono (by decide)) rfl (pa_cons (pv 2) pa_nil))))), ?_⟩)
  · obtain ⟨_, _, _, _, _, _, _, _, rfl, _⟩ := h
    rfl
  · obtain ⟨M, ln, s, n, L, o, p, v, rfl, hM, hL, h8, ho, hv, hz, k⟩ := h
    have npl : ¬ M L.pl := (hid_some hL.pl_).1
    have hlen : L.pvs.length = 8 := by rw [hL.ps.length]; exact h8
    refine s_setLS (M := M) (P := .val v) (ev_var rfl rfl) (ev_fld (M := M) (P := .val (.ref L.pl)) (ev_o rfl) hL.ln_ T.cCL T.nCL_parts lkPar rfl) (ev_n (M := M) rfl) (hid_sub _ _ hL.pl_) (by rw [hlen]; exact ho) fun u H1 e1 hu => ?_
    obtain rfl : u = v := hu
    have hL1 := hL.mono (hid_mono (M := M) e1)
    obtain ⟨hL2, hv2⟩ := hL1.put h8 (o := o) (Is.mono (hid_mono e1) hv)
    rw [← hid_upd_no npl] at hL2 hv2
    have kp : Keep M H (upd H1 L.pl (.lst (L.pvs.set o u))) := (Keep.of e1).trans (Keep.upd npl)
    refine s_ret (M := M) (ev_told_part (kp.tr hM) hz (ev_d rfl hv2)) fun r H3 e3 hr => k r H3 _ (kp.trans (Keep.of e3)) ((hL2.mono (hid_mono e3)).up) hr
end
end Im

namespace Im
open PySem PySem.Spec PyProof.Rows L2
theorem parts_at {s : Fc05.St} (ok : StOk s) {p : Nat} (h : p < 8) : s.parts[p]? = some (Fc05.partAt s p) := by
  unfold Fc05.partAt
  rw [List.getD_eq_getElem?_getD, List.getElem?_eq_getElem (by rw [ok.np]; exact h)]
  rfl
theorem home_div {p : Nat} (h : p < 8) : Fc05.home p = p / 4 := by
  unfold Fc05.home
  split <;> omega
theorem filter_le {m : Fc05.Cat} {t : Fc05.Inst} (ok : CatOk m) (io : InstOk m t) (f : Nat × Nat → Bool) : ((Fc05.places m t).filter f).length ≤ 1000 := by
  have h1 := List.length_filter_le f (Fc05.places m t)
  have h2 := places_len ok io
  omega
theorem StOk.ii {s : Fc05.St} (ok : StOk s) (i : Nat) : InstOk s.cat (Fc05.inst s i) := by
  unfold Fc05.inst
  split
  · exact ok.ia
  · exact ok.ib
theorem part_len {s : Fc05.St} (ok : StOk s) {p : Nat} (h : p < 8) : (Fc05.partAt s p).length ≤ 6 := by
  have h1 := ok.pt p _ (parts_at ok h)
  have h2 := List.length_filter_le (fun r => decide (r ∈ Fc05.partAt s p)) (Fc05.places s.cat (Fc05.instOf s p))
  have h3 := places_len ok.cat (ok.ii (Fc05.home p))
  have h4 : (Fc05.partAt s p).length = ((Fc05.places s.cat (Fc05.instOf s p)).filter fun r => decide (r ∈ Fc05.partAt s p)).length := congrArg List.length h1
  have h5 : (Fc05.places s.cat (Fc05.instOf s p)).length ≤ 6 := h3
  omega
/-! refusals -/
theorem share_one {p : Nat} : shareB [p] = decide (p < 8) := by
  unfold shareB
  rw [Bool.eq_iff_iff]
  simp
theorem share_two {p q : Nat} : shareB [p, q] = decide (p < 8 ∧ q < 8 ∧ p / 4 = q / 4) := by
  unfold shareB
  rw [Bool.eq_iff_iff]
  simp
  omega
theorem share_three {p q o : Nat} : shareB [p, q, o] = decide (p < 8 ∧ q < 8 ∧ o < 8 ∧ p / 4 = q / 4 ∧ p / 4 = o / 4) := by
  unfold shareB
  rw [Bool.eq_iff_iff]
  simp
  omega
section
variable {s : Fc05.St}
theorem ref_cases (ns : List Nat) : (shareB ns = false ∧ refB s ns = -2) ∨ (shareB ns = true ∧ rightB s.cat (Fc05.instOf s (ns.headD 0)) = false ∧ refB s ns = -6) ∨ (shareB ns = true ∧ rightB s.cat (Fc05.instOf s (ns.headD 0)) = true ∧ refB s ns = 0) := by
  unfold refB
  cases h1 : shareB ns with
  | false => exact .inl ⟨rfl, if_pos rfl⟩
  | true =>
    cases h2 : rightB s.cat (Fc05.instOf s (ns.headD 0)) with
    | false => exact .inr (.inl ⟨rfl, rfl, by rw [if_neg (by decide), if_neg (by decide)]⟩)
    | true => exact .inr (.inr ⟨rfl, rfl, by rw [if_neg (by decide), if_pos rfl]⟩)
theorem made_ref (ok : StOk s) {p q o : Nat} {f : Fc05.Cat → Fc05.Inst → Fc05.Part → Fc05.Part → Fc05.Part} (h : refB s [p, q, o] ≠ 0) : Fc05.made s p q o f = (s, [refB s [p, q, o]]) := by
  rcases ref_cases (s := s) [p, q, o] with ⟨h1, h2⟩ | ⟨h1, h2, h3⟩ | ⟨_, _, h3⟩
  · rw [share_three] at h1
    have h1' := of_decide_eq_false h1
    unfold Fc05.made
    rw [if_pos, h2]
    by_cases c1 : p < 8
    · by_cases c2 : q < 8
      · by_cases c3 : o < 8
        · rw [home_div c1, home_div c2, home_div c3]
          omega
        · omega
      · omega
    · omega
  · rw [share_three] at h1
    have h1' := of_decide_eq_true h1
    have hr : Fc05.right s (Fc05.home p) = false := by rw [right_eq ok]; exact h2
    unfold Fc05.made
    rw [if_neg, if_pos hr, h3]
    rw [home_div h1'.1, home_div h1'.2.1, home_div h1'.2.2.1]
    omega
  · exact absurd h3 h
theorem made_ok (ok : StOk s) {p q o : Nat} (h : refB s [p, q, o] = 0) : p < 8 ∧ q < 8 ∧ o < 8 ∧ Fc05.home p = Fc05.home q ∧ Fc05.home p = Fc05.home o ∧ rightB s.cat (Fc05.instOf s p) = true ∧ ∀ f : Fc05.Cat → Fc05.Inst → Fc05.Part → Fc05.Part → Fc05.Part, Fc05.made s p q o f = Fc05.withPart s o (f s.cat (Fc05.instOf s p) (Fc05.partAt s p) (Fc05.partAt s q)) := by
  rcases ref_cases (s := s) [p, q, o] with ⟨h1, h2⟩ | ⟨h1, h2, h3⟩ | ⟨h1, h2, h3⟩
  · rw [h2] at h
    cases h
  · rw [h3] at h
    cases h
  · rw [share_three] at h1
    have h1' := of_decide_eq_true h1
    have hr : Fc05.right s (Fc05.home p) = true := by rw [right_eq ok]; exact h2
    have e1 := home_div h1'.1
    have e2 := home_div h1'.2.1
    have e3 := home_div h1'.2.2.1
    refine ⟨h1'.1, h1'.2.1, h1'.2.2.1, by omega, by omega, h2, fun f => ?_⟩
    unfold Fc05.made
    rw [if_neg, if_neg (by rw [hr]; decide)]
    rw [e1, e2, e3]
    omega
theorem share_dup {p o : Nat} : shareB [p, p, o] = shareB [p, o] := by
  rw [share_three, share_two, Bool.eq_iff_iff]
  simp
theorem ref_dup {p o : Nat} : refB s [p, p, o] = refB s [p, o] := by
  unfold refB
  rw [share_dup]
  rfl
theorem one_cases (ok : StOk s) (p : Nat) : (7 < p ∧ refB s [p] = -2) ∨ (¬ 7 < p ∧ Fc05.right s (Fc05.home p) = false ∧ refB s [p] = -6) ∨ (¬ 7 < p ∧ Fc05.right s (Fc05.home p) = true ∧ refB s [p] = 0) := by
  rcases ref_cases (s := s) [p] with ⟨h1, h2⟩ | ⟨h1, h2, h3⟩ | ⟨h1, h2, h3⟩
  · rw [share_one] at h1
    have := of_decide_eq_false h1
    exact .inl ⟨by omega, h2⟩
  · rw [share_one] at h1
    have := of_decide_eq_true h1
    exact .inr (.inl ⟨by omega, by rw [right_eq ok]; exact h2, h3⟩)
  · rw [share_one] at h1
    have := of_decide_eq_true h1
    exact .inr (.inr ⟨by omega, by rw [right_eq ok]; exact h2, h3⟩)
theorem along_ref {p o : Nat} {b : Bool} {f : Fc05.Map → Fc05.Part} (h : refA s p (if b = true then 0 else 1) o (if b = true then 1 else 0) ≠ 0) : Fc05.moved s p o b f = (s, [refA s p (if b = true then 0 else 1) o (if b = true then 1 else 0)]) := by
  unfold refA at h ⊢
  unfold Fc05.moved
  by_cases c : ¬ p / 4 = (if b = true then 0 else 1) ∨ ¬ o / 4 = (if b = true then 1 else 0)
  · rw [if_pos c, if_pos]
    cases b <;> simp at c ⊢ <;> (unfold Fc05.home; split <;> split <;> simp_all <;> omega)
  · rw [if_neg c] at h ⊢
    rw [if_neg]
    · cases hw : s.way with
      | none => rw [if_pos rfl]
      | some mp =>
        rw [hw, if_neg (fun z => nomatch z)] at h
        exact absurd rfl h
    · cases b <;> simp at c ⊢ <;> (unfold Fc05.home; split <;> split <;> simp_all <;> omega)
theorem along_ok {p o : Nat} {b : Bool} (h : refA s p (if b = true then 0 else 1) o (if b = true then 1 else 0) = 0) : p < 8 ∧ o < 8 ∧ ∃ mp, s.way = some mp ∧ ∀ f : Fc05.Map → Fc05.Part, Fc05.moved s p o b f = Fc05.withPart s o (f mp) := by
  unfold refA at h
  by_cases c : ¬ p / 4 = (if b = true then 0 else 1) ∨ ¬ o / 4 = (if b = true then 1 else 0)
  · rw [if_pos c] at h
    cases h
  · rw [if_neg c] at h
    cases hw : s.way with
    | none =>
      rw [if_pos hw] at h
      cases h
    | some mp =>
      refine ⟨by cases b <;> simp at c <;> omega, by cases b <;> simp at c <;> omega, mp, rfl, fun f => ?_⟩
      unfold Fc05.moved
      rw [if_neg, hw]
      cases b <;> simp at c ⊢ <;> (unfold Fc05.home; split <;> split <;> simp_all <;> omega)
end
/-! the calls about parts -/
def sp_call_shows (CC CI CL : Addr) : Sp := SpL CC CI CL fun rest G k => ∃ p : Nat, rest = [.int p] ∧ k = .shows p
def sp_call_within (CC CI CL : Addr) : Sp := SpL CC CI CL fun rest G k => ∃ p q : Nat, rest = [.int p, .int q] ∧ k = .within p q
def sp_call_between (CC CI CL : Addr) : Sp := SpL CC CI CL fun rest G k => ∃ p : Nat, rest = [.int p] ∧ k = .decided p
def sp_call_truth (CC CI CL : Addr) : Sp := SpL CC CI CL fun rest G k => ∃ p x r : Nat, rest = [.int p, .int x, .int r] ∧ k = .truth p x r
def sp_call_meet (CC CI CL : Addr) : Sp := SpL CC CI CL fun rest G k => ∃ p q o : Nat, rest = [.int p, .int q, .int o] ∧ k = .meet p q o
def sp_call_join (CC CI CL : Addr) : Sp := SpL CC CI CL fun rest G k => ∃ p q o : Nat, rest = [.int p, .int q, .int o] ∧ k = .join p q o
def sp_call_implies (CC CI CL : Addr) : Sp := SpL CC CI CL fun rest G k => ∃ p q o : Nat, rest = [.int p, .int q, .int o] ∧ k = .implies p q o
def sp_call_not (CC CI CL : Addr) : Sp := SpL CC CI CL fun rest G k => ∃ p o : Nat, rest = [.int p, .int o] ∧ k = .not_ p o
def sp_call_part (CC CI CL : Addr) : Sp := SpL CC CI CL fun rest G k => ∃ (p : Nat) (v : V) (nums : List Nat) (l : List (Nat × Nat)), rest = [.int p, v] ∧ Is G v nums ∧ nums.length ≤ 1000 ∧ Fc05Neutral.pairsIn nums = some l ∧ k = .part p l
def sp_call_count (CC CI CL : Addr) : Sp := SpL CC CI CL fun rest G k => ∃ i : Nat, rest = [.int i] ∧ k = .count i
def sp_call_nth (CC CI CL : Addr) : Sp := SpL CC CI CL fun rest G k => ∃ p j : Nat, rest = [.int p, .int j] ∧ k = .nth p j
def sp_call_sieves (CC CI CL : Addr) : Sp := SpL CC CI CL fun rest G k => ∃ x : Nat, rest = [.int x] ∧ k = .sieves x
def sp_call_check (CC CI CL : Addr) : Sp := SpL CC CI CL fun rest G k => ∃ i : Nat, rest = [.int i] ∧ k = .check i
def sp_call_way (CC CI CL : Addr) : Sp := SpL CC CI CL fun rest G k => ∃ j : Nat, rest = [.int j] ∧ k = .way j
def sp_call_forward (CC CI CL : Addr) : Sp := SpL CC CI CL fun rest G k => ∃ p o : Nat, rest = [.int p, .int o] ∧ k = .forward p o
def sp_call_back (CC CI CL : Addr) : Sp := SpL CC CI CL fun rest G k => ∃ p o : Nat, rest = [.int p, .int o] ∧ k = .back p o
def sp_call_for_all (CC CI CL : Addr) : Sp := SpL CC CI CL fun rest G k => ∃ p o : Nat, rest = [.int p, .int o] ∧ k = .forAll p o
/-- return put_part(line, o, ..) -/
theorem s_put {CC CI CL ln : Addr} {M : Addr → Prop} {σ : L2.St} {H0 H : Hp} {ta tb tc : TE} {D : Ends} {s : Fc05.St} {n : Nat} {L : Lay} {k : Fc05.Call} {o : Nat} {p : List (Nat × Nat)} (kk : ∀ u H' L', Keep M H0 H' → LineAt CC CI CL (hid M H') ln (Fc05.step s k).1 (n + 1) L' → Is (hid M H') u (Fc05.step s k).2 → D.rt u H') (hM : Tr M H0) (hL : LineAt CC CI CL (hid M H0) ln s n L) (ok : StOk s) (e : Same H0 H)
    (hs : Fc05.step s k = Fc05.withPart s o p) (ho : o < 8) (hz : p.length ≤ 1000) (h1 : Ev M ta σ H (.val (.ref ln))) (h2 : Ev M tb σ H (.is o)) (h3 : Ev M tc σ H (.is p)) : tRet (tCall (sp_put_part CC CI CL) [] E0 (tCons ta (tCons tb (tCons tc tNil)))) D σ H :=
  ea_cons h1 (ea_cons h2 (ea_cons h3 ea_nil)) H (Same.refl H) (fun vs H1 => sp_put_part CC CI CL (vs ++ []) H1 D.rt E0) fun vs H1 e1 hv => by
    obtain ⟨u, w, z, rfl, q1, q2, q3⟩ := hv.three
    obtain rfl : u = .ref ln := q1
    obtain rfl := Is.nat q2
    have e2 := e.trans e1
    refine ⟨M, ln, s, n, L, o, p, z, rfl, hM.mono e2, hL.mono (hid_mono e2), ok.np, ho, q3, hz, fun u H' L' kp hl hi => kk u H' L' ((Keep.of e2).trans kp) (by rw [hs]; exact hl) (by rw [hs]; exact hi)⟩
section
variable {P : Program} {w : World} {K : PySem.W.Frag} {mg : Str → Option Value} {base : Heap} {CC CI CL WN : Addr}
theorem ok_call_shows {f : Addr} {fd : FuncData} (F : Fun K "call_shows" "call_shows" s_call_shows f fd) (T : Txt K mg CC CI CL WN) (g_told_part : DefOk P w K mg base 1 "told_part" ["part"] (sp_told_part CC CI CL)) (g_share_instance : MetOk P w K mg base CL 1 "share_instance" ["self", "numbers"] (sp_share_instance CC CI CL)) : FnOk P w K mg base CX0 2 f fd ["line", "p"] (sp_call_shows CC CI CL) := by
  refine F.ok sc_call_shows (fun vs H Q E h => ?_) (fun cdv A outer s H vs Q E hr h => ⟨_, (pss_cons (ps_if (pt_not (pt_val (pe_methD (pv 0) T.cCL g_share_instance (hr.mono (by decide)) (pa_cons (pe_lst (pa_cons (pv 1) pa_nil)) pa_nil)))) (pss_one (ps_ret (pe_lst (pa_cons (pe_gI T.c_NO_SUCH_PART rfl) pa_nil)))) pss_nil)
    (pss_one (ps_ret (pe_callD g_told_part (hr.mono (by decide)) rfl (pa_cons (pe_ix ix_list (pe_fld (pv 0) rfl) (pv 1) (fun _ _ => rfl)) pa_nil))))), ?_⟩)
  · obtain ⟨_, _, _, _, _, _, _, rfl, _, ⟨_, rfl, _⟩, _⟩ := h
    rfl
  · obtain ⟨M, ln, s, n, L, rest, kk, rfl, hM, ⟨p, rfl, rfl⟩, hL, ok, hn, k⟩ := h
    refine s_ifN (et_not (et_B (M := M) (ev_share_instance hM (ev_o rfl) hL (ns := [p]) (fun z => nomatch z) (ev_lst1 hM (ev_n rfl))))) (fun hb H1 e1 => ?_) fun hb H1 e1 => ?_
    · have hb' : ¬ p < 8 := by
        have h : shareB [p] = false := by simpa using hb
        rw [share_one] at h
        exact of_decide_eq_false h
      exact s_rq k hL e1 (by show (s, _) = _; rw [if_pos (show 7 < p by omega)]) (ev_ref1 (hM.mono e1) (ev_cz (z := -2)))
    · have hb' : p < 8 := by
        have h : shareB [p] = true := by simpa using hb
        rw [share_one] at h
        exact of_decide_eq_true h
      have hL1 := hL.mono (hid_mono (M := M) e1)
      exact s_rq k hL e1 (by show (s, _) = _; rw [if_neg (show ¬ 7 < p by omega)]) (ev_told_part (hM.mono e1) (by have := part_len ok hb'; omega) (ev_ixL (ev_Lpar T (ev_o rfl) hL1) (ev_n rfl) (parts_at ok hb')))
theorem ok_call_within {f : Addr} {fd : FuncData} (F : Fun K "call_within" "call_within" s_call_within f fd) (T : Txt K mg CC CI CL WN) (g_is_within : DefOk P w K mg base 2 "is_within" ["p", "q"] (sp_is_within CC CI CL)) (g_share_instance : MetOk P w K mg base CL 1 "share_instance" ["self", "numbers"] (sp_share_instance CC CI CL)) : FnOk P w K mg base CX0 3 f fd ["line", "p", "q"] (sp_call_within CC CI CL) := by
  refine F.ok sc_call_within (fun vs H Q E h => ?_) (fun cdv A outer s H vs Q E hr h => ⟨_, (pss_cons (ps_if (pt_not (pt_val (pe_methD (pv 0) T.cCL g_share_instance (hr.mono (by decide)) (pa_cons (pe_lst (pa_cons (pv 1) (pa_cons (pv 2) pa_nil))) pa_nil)))) (pss_one (ps_ret (pe_lst (pa_cons (pe_gI T.c_NO_SUCH_PART rfl) pa_nil)))) pss_nil)
    (pss_cons (ps_if (pt_val (pe_callD g_is_within (hr.mono (by decide)) rfl (pa_cons (pe_ix ix_list (pe_fld (pv 0) rfl) (pv 1) (fun _ _ => rfl)) (pa_cons (pe_ix ix_list (pe_fld (pv 0) rfl) (pv 2) (fun _ _ => rfl)) pa_nil)))) (pss_one (ps_ret (pe_lst (pa_cons pe_int pa_nil)))) pss_nil)
    (pss_one (ps_ret (pe_lst (pa_cons pe_int pa_nil)))))), ?_⟩)
  · obtain ⟨_, _, _, _, _, _, _, rfl, _, ⟨_, _, rfl, _⟩, _⟩ := h
    rfl
  · obtain ⟨M, ln, s, n, L, rest, kk, rfl, hM, ⟨p, q, rfl, rfl⟩, hL, ok, hn, k⟩ := h
    refine s_ifN (et_not (et_B (M := M) (ev_share_instance hM (ev_o rfl) hL (ns := [p, q]) (fun z => nomatch z) (ev_lst hM (by simp) ⟨_, _, rfl, ev_n rfl, _, _, rfl, ev_n rfl, rfl⟩)))) (fun hb H1 e1 => ?_) fun hb H1 e1 => ?_
    · have hb' : ¬ (p < 8 ∧ q < 8 ∧ p / 4 = q / 4) := by
        have h : shareB [p, q] = false := by simpa using hb
        rw [share_two] at h
        exact of_decide_eq_false h
      refine s_rq k hL e1 ?_ (ev_ref1 (hM.mono e1) (ev_cz (z := -2)))
      show (s, _) = _
      rw [if_pos]
      by_cases c1 : p < 8
      · by_cases c2 : q < 8
        · rw [home_div c1, home_div c2]
          omega
        · omega
      · omega
    · have hb' : p < 8 ∧ q < 8 ∧ p / 4 = q / 4 := by
        have h : shareB [p, q] = true := by simpa using hb
        rw [share_two] at h
        exact of_decide_eq_true h
      have hL1 := hL.mono (hid_mono (M := M) e1)
      have hM1 := hM.mono e1
      have hst : Fc05.step s (.within p q) = (s, [if withinB (Fc05.partAt s p) (Fc05.partAt s q) = true then 1 else 0]) := by
        show (s, _) = _
        rw [if_neg, within_eq]
        rw [home_div hb'.1, home_div hb'.2.1]
        omega
      refine s_ifN (et_B (M := M) (ev_is_within hM1 (by have := part_len ok hb'.1; omega) (ev_ixL (ev_Lpar T (ev_o rfl) hL1) (ev_n rfl) (parts_at ok hb'.1)) (ev_ixL (ev_Lpar T (ev_o rfl) hL1) (ev_n rfl) (parts_at ok hb'.2.1)))) (fun hb2 H2 e2 => ?_) fun hb2 H2 e2 => ?_
      · exact s_rq k hL (e1.trans e2) (by rw [hst, if_pos hb2]) (ev_ref1 (hM1.mono e2) (ev_cz (z := 1)))
      · exact s_rq k hL (e1.trans e2) (by rw [hst, if_neg (by rw [hb2]; decide)]) (ev_ref1 (hM1.mono e2) (ev_cz (z := 0)))
theorem ok_call_between {f : Addr} {fd : FuncData} (F : Fun K "call_between" "call_between" s_call_between f fd) (T : Txt K mg CC CI CL WN) (g_told_part : DefOk P w K mg base 1 "told_part" ["part"] (sp_told_part CC CI CL)) (g_rows_between : DefOk P w K mg base 6 "rows_between" ["instance", "p"] (sp_rows_between CC CI CL)) (g_instance_of : MetOk P w K mg base CL 1 "instance_of" ["self", "p"] (sp_instance_of CC CI CL)) (g_refusal_of_parts : DefOk P w K mg base 6 "refusal_of_parts" ["line", "numbers"] (sp_refusal_of_parts CC CI CL)) : FnOk P w K mg base CX0 7 f fd ["line", "p"] (sp_call_between CC CI CL) := by
  refine F.ok sc_call_between (fun vs H Q E h => ?_) (fun cdv A outer s H vs Q E hr h => ⟨_, (pss_cons (ps_set (i := 2) sc_call_between.nd rfl (Or.inl rfl) (pe_callD g_refusal_of_parts (hr.mono (by decide)) rfl (pa_cons (pv 0) (pa_cons (pe_lst (pa_cons (pv 1) pa_nil)) pa_nil))))
    (pss_cons (ps_if (pt_cmpR op_ne (pv 2) (pe_gI T.c_NOT_REFUSED rfl) (nomark _)) (pss_one (ps_ret (pe_lst (pa_cons (pv 2) pa_nil)))) pss_nil)
    (pss_one (ps_ret (pe_callD g_told_part (hr.mono (by decide)) rfl (pa_cons (pe_callD g_rows_between (hr.mono (by decide)) rfl (pa_cons (pe_methD (pv 0) T.cCL g_instance_of (hr.mono (by decide)) (pa_cons (pv 1) pa_nil)) (pa_cons (pe_ix ix_list (pe_fld (pv 0) rfl) (pv 1) (fun _ _ => rfl)) pa_nil))) pa_nil)))))), ?_⟩)
  · obtain ⟨_, _, _, _, _, _, _, rfl, _, ⟨_, rfl, _⟩, _⟩ := h
    rfl
  · obtain ⟨M, ln, s, n, L, rest, kk, rfl, hM, ⟨p, rfl, rfl⟩, hL, ok, hn, k⟩ := h
    refine s_asgS (M := M) (ev_refusal_of_parts hM (ev_o rfl) hL ok (ns := [p]) (fun z => nomatch z) (ev_lst1 hM (ev_n rfl))) fun v H1 e1 hv => ?_
    obtain rfl := Is.int hv
    refine s_ifN (et_test (M := M) (ev_neZ (ev_var rfl is_int) (ev_cz (z := 0)))) (fun hb H2 e2 => ?_) fun hb H2 e2 => ?_
    · have hb' : refB s [p] ≠ 0 := by simpa using hb
      refine s_rq k hL (e1.trans e2) ?_ (ev_ref1 (hM.mono (e1.trans e2)) (ev_var rfl is_int))
      show (s, _) = _
      rcases one_cases ok p with ⟨h1, h2⟩ | ⟨h1, h2, h3⟩ | ⟨h1, h2, h3⟩
      · rw [if_pos h1, h2]
      · rw [if_neg h1, if_pos h2, h3]
      · exact absurd h3 hb'
    · have hb' : refB s [p] = 0 := by simpa using hb
      rcases one_cases ok p with ⟨h1, h2⟩ | ⟨h1, h2, h3⟩ | ⟨h1, h2, h3⟩
      · rw [h2] at hb'; cases hb'
      · rw [h3] at hb'; cases hb'
      · have h8 : p < 8 := by omega
        have e12 := e1.trans e2
        have hM2 := hM.mono e12
        have hL2 := hL.mono (hid_mono (M := M) e12)
        refine s_rq k hL e12 ?_ (ev_told_part hM2 (filter_le ok.cat (ok.ii (Fc05.home p)) _) (ev_rows_between hM2 (ev_instance_of hM2 (ev_o rfl) hL2 h8 (ev_n rfl)) (hL2.inI ok (Fc05.home p)) (ev_ixL (ev_Lpar T (ev_o rfl) hL2) (ev_n rfl) (parts_at ok h8))))
        show (s, _) = _
        rw [if_neg h1, if_neg (by rw [h2]; decide)]
        refine congrArg (fun l => (s, Fc05.told l)) ?_
        unfold Fc05.not_
        rw [implies_eq]
        refine List.filter_congr fun r _ => ?_
        simp [Fc05.instOf]
theorem ok_call_truth {f : Addr} {fd : FuncData} (F : Fun K "call_truth" "call_truth" s_call_truth f fd) (T : Txt K mg CC CI CL WN) (g_arrows_into : DefOk P w K mg base 2 "arrows_into" ["instance", "row", "p"] (sp_arrows_into CC CI CL)) (g_has_row : MetOk P w K mg base CI 1 "has_row" ["self", "x", "r"] (sp_has_row CC CI CL)) (g_instance_of : MetOk P w K mg base CL 1 "instance_of" ["self", "p"] (sp_instance_of CC CI CL)) (g_refusal_of_parts : DefOk P w K mg base 6 "refusal_of_parts" ["line", "numbers"] (sp_refusal_of_parts CC CI CL)) : FnOk P w K mg base CX0 7 f fd ["line", "p", "x", "r"] (sp_call_truth CC CI CL) := by
  refine F.ok sc_call_truth (fun vs H Q E h => ?_) (fun cdv A outer s H vs Q E hr h => ⟨_, (pss_cons (ps_set (i := 4) sc_call_truth.nd rfl (Or.inl rfl) (pe_callD g_refusal_of_parts (hr.mono (by decide)) rfl (pa_cons (pv 0) (pa_cons (pe_lst (pa_cons (pv 1) pa_nil)) pa_nil))))
    (pss_cons (ps_if (pt_cmpR op_ne (pv 4) (pe_gI T.c_NOT_REFUSED rfl) (nomark _)) (pss_one (ps_ret (pe_lst (pa_cons (pv 4) pa_nil)))) pss_nil)
    (pss_cons (ps_set (i := 5) sc_call_truth.nd rfl (Or.inl rfl) (pe_methD (pv 0) T.cCL g_instance_of (hr.mono (by decide)) (pa_cons (pv 1) pa_nil)))
    (pss_cons (ps_if (pt_not (pt_val (pe_methD (pv 5) T.cCI g_has_row (hr.mono (by decide)) (pa_cons (pv 2) (pa_cons (pv 3) pa_nil))))) (pss_one (ps_ret (pe_lst (pa_cons (pe_gI T.c_UNFIT rfl) pa_nil)))) pss_nil)
    (pss_cons (ps_set (i := 6) sc_call_truth.nd rfl (Or.inl rfl) (pe_callD g_arrows_into (hr.mono (by decide)) rfl (pa_cons (pv 5) (pa_cons (pe_tup (pa_cons (pv 2) (pa_cons (pv 3) pa_nil))) (pa_cons (pe_ix ix_list (pe_fld (pv 0) rfl) (pv 1) (fun _ _ => rfl)) pa_nil)))))
    (pss_one (ps_ret (pe_op op_cat (pe_lst (pa_cons (pe_callB call_len_seq (by rfl) T.f_len PySem.boot_len (pa_cons (pv 6) pa_nil)) pa_nil)) (pv 6))))))))), ?_⟩)
  · obtain ⟨_, _, _, _, _, _, _, rfl, _, ⟨_, _, _, rfl, _⟩, _⟩ := h
    rfl
  · obtain ⟨M, ln, s, n, L, rest, kk, rfl, hM, ⟨p, x, r, rfl, rfl⟩, hL, ok, hn, k⟩ := h
    refine s_asgS (M := M) (ev_refusal_of_parts hM (ev_o rfl) hL ok (ns := [p]) (fun z => nomatch z) (ev_lst1 hM (ev_n rfl))) fun v H1 e1 hv => ?_
    obtain rfl := Is.int hv
    refine s_ifN (et_test (M := M) (ev_neZ (ev_var rfl is_int) (ev_cz (z := 0)))) (fun hb H2 e2 => ?_) fun hb H2 e2 => ?_
    · have hb' : refB s [p] ≠ 0 := by simpa using hb
      refine s_rq k hL (e1.trans e2) ?_ (ev_ref1 (hM.mono (e1.trans e2)) (ev_var rfl is_int))
      show (s, _) = _
      rcases one_cases ok p with ⟨h1, h2⟩ | ⟨h1, h2, h3⟩ | ⟨h1, h2, h3⟩
      · rw [if_pos h1, h2]
      · rw [if_neg h1, if_pos h2, h3]
      · exact absurd h3 hb'
    · have hb' : refB s [p] = 0 := by simpa using hb
      rcases one_cases ok p with ⟨h1, h2⟩ | ⟨h1, h2, h3⟩ | ⟨h1, h2, h3⟩
      · rw [h2] at hb'; cases hb'
      · rw [h3] at hb'; cases hb'
      · have h8 : p < 8 := by omega
        have e12 := e1.trans e2
        have hM2 := hM.mono e12
        have hL2 := hL.mono (hid_mono (M := M) e12)
        refine s_asgS (M := M) (ev_instance_of hM2 (ev_o rfl) hL2 h8 (ev_n rfl)) fun vi H3 e3 hvi => ?_
        obtain rfl : vi = .ref (L.ins (Fc05.home p)) := hvi
        have e13 := e12.trans e3
        have hM3 := hM.mono e13
        have hL3 := hL.mono (hid_mono (M := M) e13)
        have hin := hL3.inI ok (Fc05.home p)
        obtain ⟨c', hi, _, io⟩ := hin
        have hst : Fc05.step s (.truth p x r) = (s, if hasRow s.cat (Fc05.instOf s p) x r = false then [-1] else Fc05.ints ((intoL s.cat (Fc05.instOf s p) (Fc05.partAt s p) x r).length :: intoL s.cat (Fc05.instOf s p) (Fc05.partAt s p) x r)) := by
          show (s, _) = _
          rw [if_neg h1, if_neg (by rw [h2]; decide), hasRow_eq, truth_eq]
        refine s_ifN (et_not (et_B (M := M) (ev_has_row hM3 (ev_o rfl) hi io (ev_n rfl) (ev_n rfl)))) (fun hb3 H4 e4 => ?_) fun hb3 H4 e4 => ?_
        · have hb4 : hasRow s.cat (Fc05.instOf s p) x r = false := by
            have h : (!hasRow s.cat (Fc05.instOf s p) x r) = true := hb3
            simpa using h
          exact s_rq k hL (e13.trans e4) (by rw [hst, if_pos hb4]) (ev_ref1 (hM3.mono e4) (ev_cz (z := -1)))
        · have hb4 : hasRow s.cat (Fc05.instOf s p) x r = true := by
            have h : (!hasRow s.cat (Fc05.instOf s p) x r) = false := hb3
            simpa using h
          have e14 := e13.trans e4
          have hM4 := hM.mono e14
          have hL4 := hL.mono (hid_mono (M := M) e14)
          have hr : r < Fc05.rows (Fc05.instOf s p) x := by
            unfold hasRow at hb4
            rw [Bool.and_eq_true] at hb4
            exact of_decide_eq_true hb4.2
          refine s_asgS (M := M) (ev_arrows_into hM4 (ev_o rfl) (hL4.inI ok (Fc05.home p)) hr (ev_tup (tr := tNil) hM4 (ev_n rfl) (ev_n rfl)) (ev_ixL (ev_Lpar T (ev_o rfl) hL4) (ev_n rfl) (parts_at ok h8))) fun vf H5 e5 hvf => ?_
          have e15 := e14.trans e5
          have hM5 := hM.mono e15
          refine s_rq k hL e15 (by rw [hst, if_neg (by rw [hb4]; decide)]; rfl) (Ev.zs (ev_cat (l := [_]) (k := _) ?_ hM5 (ev_lst1 hM5 (ev_len (ev_d rfl hvf))) (ev_d rfl hvf)))
          have := List.length_filter_le (fun f => decide ((Fc05.to_ s.cat f, Fc05.go s.cat (Fc05.inst s (Fc05.home p)) f r) ∈ Fc05.partAt s p)) (arrowsFrom s.cat x)
          have h9 := from_len ok.cat x
          have h10 : (intoL s.cat (Fc05.inst s (Fc05.home p)) (Fc05.partAt s p) x r).length ≤ 8 := Nat.le_trans this h9
          simp
          omega
end
end Im

namespace Im
open PySem PySem.Spec PyProof.Rows L2
section
variable {P : Program} {w : World} {K : PySem.W.Frag} {mg : Str → Option Value} {base : Heap} {CC CI CL WN : Addr}
theorem ok_call_meet {f : Addr} {fd : FuncData} (F : Fun K "call_meet" "call_meet" s_call_meet f fd) (T : Txt K mg CC CI CL WN) (g_put_part : DefOk P w K mg base 2 "put_part" ["line", "o", "part"] (sp_put_part CC CI CL)) (g_met_part : DefOk P w K mg base 1 "met_part" ["p", "q"] (sp_met_part CC CI CL)) (g_refusal_of_parts : DefOk P w K mg base 6 "refusal_of_parts" ["line", "numbers"] (sp_refusal_of_parts CC CI CL)) : FnOk P w K mg base CX0 7 f fd ["line", "p", "q", "o"] (sp_call_meet CC CI CL) := by
  refine F.ok sc_call_meet (fun vs H Q E h => ?_) (fun cdv A outer s H vs Q E hr h => ⟨_, (pss_cons (ps_set (i := 4) sc_call_meet.nd rfl (Or.inl rfl) (pe_callD g_refusal_of_parts (hr.mono (by decide)) rfl (pa_cons (pv 0) (pa_cons (pe_lst (pa_cons (pv 1) (pa_cons (pv 2) (pa_cons (pv 3) pa_nil)))) pa_nil))))
    (pss_cons (ps_if (pt_cmpR op_ne (pv 4) (pe_gI T.c_NOT_REFUSED rfl) (nomark _)) (pss_one (ps_ret (pe_lst (pa_cons (pv 4) pa_nil)))) pss_nil)
    (pss_one (ps_ret (pe_callD g_put_part (hr.mono (by decide)) rfl (pa_cons (pv 0) (pa_cons (pv 3) (pa_cons (pe_callD g_met_part (hr.mono (by decide)) rfl (pa_cons (pe_ix ix_list (pe_fld (pv 0) rfl) (pv 1) (fun _ _ => rfl)) (pa_cons (pe_ix ix_list (pe_fld (pv 0) rfl) (pv 2) (fun _ _ => rfl)) pa_nil))) pa_nil)))))))), ?_⟩)
  · obtain ⟨_, _, _, _, _, _, _, rfl, _, ⟨_, _, _, rfl, _⟩, _⟩ := h
    rfl
  · obtain ⟨M, ln, s, n, L, rest, kk, rfl, hM, ⟨p, q, o, rfl, rfl⟩, hL, ok, hn, k⟩ := h
    refine s_asgS (M := M) (ev_refusal_of_parts hM (ev_o rfl) hL ok (ns := [p, q, o]) (fun z => nomatch z) (ev_lst3 hM (ev_n rfl) (ev_n rfl) (ev_n rfl))) fun v H1 e1 hv => ?_
    obtain rfl := Is.int hv
    refine s_ifN (et_test (M := M) (ev_neZ (ev_var rfl is_int) (ev_cz (z := 0)))) (fun hb H2 e2 => ?_) fun hb H2 e2 => ?_
    · have hb' : refB s [p, q, o] ≠ 0 := by simpa using hb
      exact s_rq k hL (e1.trans e2) (made_ref ok hb') (ev_ref1 (hM.mono (e1.trans e2)) (ev_var rfl is_int))
    · have hb' : refB s [p, q, o] = 0 := by simpa using hb
      obtain ⟨p8, q8, o8, hpq, hpo, hr, hmade⟩ := made_ok ok hb'
      have e12 := e1.trans e2
      have hM2 := hM.mono e12
      have hL2 := hL.mono (hid_mono (M := M) e12)
      have hP := ev_ixL (K := K) (ev_Lpar T (ev_o (i := 0) (σ := [some (.ref ln), some (.int p), some (.int q), some (.int o), some (.int (refB s [p, q, o]))]) rfl) hL2) (ev_n (i := 1) rfl) (parts_at ok p8)
      have hQ := ev_ixL (K := K) (ev_Lpar T (ev_o (i := 0) (σ := [some (.ref ln), some (.int p), some (.int q), some (.int o), some (.int (refB s [p, q, o]))]) rfl) hL2) (ev_n (i := 2) rfl) (parts_at ok q8)
      refine s_put k hM hL ok e12 (hmade _) o8 ?_ (ev_o rfl) (ev_n rfl) ((ev_met_part hM2 (by have := part_len ok p8; omega) hP hQ).eq (meet_eq (ok.pt p _ (parts_at ok p8))).symm)
      rw [meet_eq (ok.pt p _ (parts_at ok p8))]
      have h1 := List.length_filter_le (fun r => decide (r ∈ Fc05.partAt s q)) (Fc05.partAt s p)
      have h2 := part_len ok p8
      omega
theorem ok_call_join {f : Addr} {fd : FuncData} (F : Fun K "call_join" "call_join" s_call_join f fd) (T : Txt K mg CC CI CL WN) (g_put_part : DefOk P w K mg base 2 "put_part" ["line", "o", "part"] (sp_put_part CC CI CL)) (g_joined_part : DefOk P w K mg base 2 "joined_part" ["instance", "p", "q"] (sp_joined_part CC CI CL)) (g_instance_of : MetOk P w K mg base CL 1 "instance_of" ["self", "p"] (sp_instance_of CC CI CL)) (g_refusal_of_parts : DefOk P w K mg base 6 "refusal_of_parts" ["line", "numbers"] (sp_refusal_of_parts CC CI CL)) : FnOk P w K mg base CX0 7 f fd ["line", "p", "q", "o"] (sp_call_join CC CI CL) := by
  refine F.ok sc_call_join (fun vs H Q E h => ?_) (fun cdv A outer s H vs Q E hr h => ⟨_, (pss_cons (ps_set (i := 4) sc_call_join.nd rfl (Or.inl rfl) (pe_callD g_refusal_of_parts (hr.mono (by decide)) rfl (pa_cons (pv 0) (pa_cons (pe_lst (pa_cons (pv 1) (pa_cons (pv 2) (pa_cons (pv 3) pa_nil)))) pa_nil))))
    (pss_cons (ps_if (pt_cmpR op_ne (pv 4) (pe_gI T.c_NOT_REFUSED rfl) (nomark _)) (pss_one (ps_ret (pe_lst (pa_cons (pv 4) pa_nil)))) pss_nil)
    (pss_one (ps_ret (pe_callD g_put_part (hr.mono (by decide)) rfl (pa_cons (pv 0) (pa_cons (pv 3) (pa_cons (pe_callD g_joined_part (hr.mono (by decide)) rfl (pa_cons (pe_methD (pv 0) T.cCL g_instance_of (hr.mono (by decide)) (pa_cons (pv 3) pa_nil)) (pa_cons (pe_ix ix_list (pe_fld (pv 0) rfl) (pv 1) (fun _ _ => rfl)) (pa_cons (pe_ix ix_list (pe_fld (pv 0) rfl) (pv 2) (fun _ _ => rfl)) pa_nil)))) pa_nil)))))))), ?_⟩)
  · obtain ⟨_, _, _, _, _, _, _, rfl, _, ⟨_, _, _, rfl, _⟩, _⟩ := h
    rfl
  · obtain ⟨M, ln, s, n, L, rest, kk, rfl, hM, ⟨p, q, o, rfl, rfl⟩, hL, ok, hn, k⟩ := h
    refine s_asgS (M := M) (ev_refusal_of_parts hM (ev_o rfl) hL ok (ns := [p, q, o]) (fun z => nomatch z) (ev_lst3 hM (ev_n rfl) (ev_n rfl) (ev_n rfl))) fun v H1 e1 hv => ?_
    obtain rfl := Is.int hv
    refine s_ifN (et_test (M := M) (ev_neZ (ev_var rfl is_int) (ev_cz (z := 0)))) (fun hb H2 e2 => ?_) fun hb H2 e2 => ?_
    · have hb' : refB s [p, q, o] ≠ 0 := by simpa using hb
      exact s_rq k hL (e1.trans e2) (made_ref ok hb') (ev_ref1 (hM.mono (e1.trans e2)) (ev_var rfl is_int))
    · have hb' : refB s [p, q, o] = 0 := by simpa using hb
      obtain ⟨p8, q8, o8, hpq, hpo, hr, hmade⟩ := made_ok ok hb'
      have e12 := e1.trans e2
      have hM2 := hM.mono e12
      have hL2 := hL.mono (hid_mono (M := M) e12)
      have hP := ev_ixL (K := K) (ev_Lpar T (ev_o (i := 0) (σ := [some (.ref ln), some (.int p), some (.int q), some (.int o), some (.int (refB s [p, q, o]))]) rfl) hL2) (ev_n (i := 1) rfl) (parts_at ok p8)
      have hQ := ev_ixL (K := K) (ev_Lpar T (ev_o (i := 0) (σ := [some (.ref ln), some (.int p), some (.int q), some (.int o), some (.int (refB s [p, q, o]))]) rfl) hL2) (ev_n (i := 2) rfl) (parts_at ok q8)
      have hin : InAt CC CI (hid M H2) (L.ins (Fc05.home o)) s.cat (Fc05.instOf s p) := by
        have := hL2.inI ok (Fc05.home o)
        rw [← hpo] at this ⊢
        exact this
      exact s_put k hM hL ok e12 (hmade _) o8 (filter_le ok.cat (ok.ii (Fc05.home p)) _) (ev_o rfl) (ev_n rfl) ((ev_joined_part hM2 (ev_instance_of hM2 (ev_o rfl) hL2 o8 (ev_n rfl)) hin hP hQ).eq join_eq.symm)
theorem ok_call_implies {f : Addr} {fd : FuncData} (F : Fun K "call_implies" "call_implies" s_call_implies f fd) (T : Txt K mg CC CI CL WN) (g_put_part : DefOk P w K mg base 2 "put_part" ["line", "o", "part"] (sp_put_part CC CI CL)) (g_implied_part : DefOk P w K mg base 4 "implied_part" ["instance", "p", "q"] (sp_implied_part CC CI CL)) (g_instance_of : MetOk P w K mg base CL 1 "instance_of" ["self", "p"] (sp_instance_of CC CI CL)) (g_refusal_of_parts : DefOk P w K mg base 6 "refusal_of_parts" ["line", "numbers"] (sp_refusal_of_parts CC CI CL)) : FnOk P w K mg base CX0 7 f fd ["line", "p", "q", "o"] (sp_call_implies CC CI CL) := by
  refine F.ok sc_call_implies (fun vs H Q E h => ?_) (fun cdv A outer s H vs Q E hr h => ⟨_, (pss_cons (ps_set (i := 4) sc_call_implies.nd rfl (Or.inl rfl) (pe_callD g_refusal_of_parts (hr.mono (by decide)) rfl (pa_cons (pv 0) (pa_cons (pe_lst (pa_cons (pv 1) (pa_cons (pv 2) (pa_cons (pv 3) pa_nil)))) pa_nil))))
    (pss_cons (ps_if (pt_cmpR op_ne (pv 4) (pe_gI T.c_NOT_REFUSED rfl) (nomark _)) (pss_one (ps_ret (pe_lst (pa_cons (pv 4) pa_nil)))) pss_nil)
    (pss_one (ps_ret (pe_callD g_put_part (hr.mono (by decide)) rfl (pa_cons (pv 0) (pa_cons (pv 3) (pa_cons (pe_callD g_implied_part (hr.mono (by decide)) rfl (pa_cons (pe_methD (pv 0) T.cCL g_instance_of (hr.mono (by decide)) (pa_cons (pv 3) pa_nil)) (pa_cons (pe_ix ix_list (pe_fld (pv 0) rfl) (pv 1) (fun _ _ => rfl)) (pa_cons (pe_ix ix_list (pe_fld (pv 0) rfl) (pv 2) (fun _ _ => rfl)) pa_nil)))) pa_nil)))))))), ?_⟩)
  · obtain ⟨_, _, _, _, _, _, _, rfl, _, ⟨_, _, _, rfl, _⟩, _⟩ := h
    rfl
  · obtain ⟨M, ln, s, n, L, rest, kk, rfl, hM, ⟨p, q, o, rfl, rfl⟩, hL, ok, hn, k⟩ := h
    refine s_asgS (M := M) (ev_refusal_of_parts hM (ev_o rfl) hL ok (ns := [p, q, o]) (fun z => nomatch z) (ev_lst3 hM (ev_n rfl) (ev_n rfl) (ev_n rfl))) fun v H1 e1 hv => ?_
    obtain rfl := Is.int hv
    refine s_ifN (et_test (M := M) (ev_neZ (ev_var rfl is_int) (ev_cz (z := 0)))) (fun hb H2 e2 => ?_) fun hb H2 e2 => ?_
    · have hb' : refB s [p, q, o] ≠ 0 := by simpa using hb
      exact s_rq k hL (e1.trans e2) (made_ref ok hb') (ev_ref1 (hM.mono (e1.trans e2)) (ev_var rfl is_int))
    · have hb' : refB s [p, q, o] = 0 := by simpa using hb
      obtain ⟨p8, q8, o8, hpq, hpo, hr, hmade⟩ := made_ok ok hb'
      have e12 := e1.trans e2
      have hM2 := hM.mono e12
      have hL2 := hL.mono (hid_mono (M := M) e12)
      have hP := ev_ixL (K := K) (ev_Lpar T (ev_o (i := 0) (σ := [some (.ref ln), some (.int p), some (.int q), some (.int o), some (.int (refB s [p, q, o]))]) rfl) hL2) (ev_n (i := 1) rfl) (parts_at ok p8)
      have hQ := ev_ixL (K := K) (ev_Lpar T (ev_o (i := 0) (σ := [some (.ref ln), some (.int p), some (.int q), some (.int o), some (.int (refB s [p, q, o]))]) rfl) hL2) (ev_n (i := 2) rfl) (parts_at ok q8)
      have hin : InAt CC CI (hid M H2) (L.ins (Fc05.home o)) s.cat (Fc05.instOf s p) := by
        have := hL2.inI ok (Fc05.home o)
        rw [← hpo] at this ⊢
        exact this
      exact s_put k hM hL ok e12 (hmade _) o8 (filter_le ok.cat (ok.ii (Fc05.home p)) _) (ev_o rfl) (ev_n rfl) ((ev_implied_part hM2 (ev_instance_of hM2 (ev_o rfl) hL2 o8 (ev_n rfl)) hin hP hQ).eq implies_eq.symm)
theorem ok_call_not {f : Addr} {fd : FuncData} (F : Fun K "call_not" "call_not" s_call_not f fd) (T : Txt K mg CC CI CL WN) (g_put_part : DefOk P w K mg base 2 "put_part" ["line", "o", "part"] (sp_put_part CC CI CL)) (g_not_part : DefOk P w K mg base 5 "not_part" ["instance", "p"] (sp_not_part CC CI CL)) (g_instance_of : MetOk P w K mg base CL 1 "instance_of" ["self", "p"] (sp_instance_of CC CI CL)) (g_refusal_of_parts : DefOk P w K mg base 6 "refusal_of_parts" ["line", "numbers"] (sp_refusal_of_parts CC CI CL)) : FnOk P w K mg base CX0 7 f fd ["line", "p", "o"] (sp_call_not CC CI CL) := by
  refine F.ok sc_call_not (fun vs H Q E h => ?_) (fun cdv A outer s H vs Q E hr h => ⟨_, (pss_cons (ps_set (i := 3) sc_call_not.nd rfl (Or.inl rfl) (pe_callD g_refusal_of_parts (hr.mono (by decide)) rfl (pa_cons (pv 0) (pa_cons (pe_lst (pa_cons (pv 1) (pa_cons (pv 2) pa_nil))) pa_nil))))
    (pss_cons (ps_if (pt_cmpR op_ne (pv 3) (pe_gI T.c_NOT_REFUSED rfl) (nomark _)) (pss_one (ps_ret (pe_lst (pa_cons (pv 3) pa_nil)))) pss_nil)
    (pss_one (ps_ret (pe_callD g_put_part (hr.mono (by decide)) rfl (pa_cons (pv 0) (pa_cons (pv 2) (pa_cons (pe_callD g_not_part (hr.mono (by decide)) rfl (pa_cons (pe_methD (pv 0) T.cCL g_instance_of (hr.mono (by decide)) (pa_cons (pv 2) pa_nil)) (pa_cons (pe_ix ix_list (pe_fld (pv 0) rfl) (pv 1) (fun _ _ => rfl)) pa_nil))) pa_nil)))))))), ?_⟩)
  · obtain ⟨_, _, _, _, _, _, _, rfl, _, ⟨_, _, rfl, _⟩, _⟩ := h
    rfl
  · obtain ⟨M, ln, s, n, L, rest, kk, rfl, hM, ⟨p, o, rfl, rfl⟩, hL, ok, hn, k⟩ := h
    refine s_asgS (M := M) (ev_refusal_of_parts hM (ev_o rfl) hL ok (ns := [p, o]) (fun z => nomatch z) (ev_lst hM (by simp) ⟨_, _, rfl, ev_n rfl, _, _, rfl, ev_n rfl, rfl⟩)) fun v H1 e1 hv => ?_
    obtain rfl := Is.int hv
    refine s_ifN (et_test (M := M) (ev_neZ (ev_var rfl is_int) (ev_cz (z := 0)))) (fun hb H2 e2 => ?_) fun hb H2 e2 => ?_
    · have hb' : refB s [p, p, o] ≠ 0 := by rw [ref_dup]; simpa using hb
      refine s_rq k hL (e1.trans e2) (made_ref (f := fun c t k _ => Fc05.not_ c t k) ok hb') ?_
      rw [ref_dup]
      exact ev_ref1 (hM.mono (e1.trans e2)) (ev_var rfl is_int)
    · have hb' : refB s [p, p, o] = 0 := by rw [ref_dup]; simpa using hb
      obtain ⟨p8, _, o8, _, hpo, hr, hmade⟩ := made_ok ok hb'
      have e12 := e1.trans e2
      have hM2 := hM.mono e12
      have hL2 := hL.mono (hid_mono (M := M) e12)
      have hin : InAt CC CI (hid M H2) (L.ins (Fc05.home o)) s.cat (Fc05.instOf s p) := by
        have := hL2.inI ok (Fc05.home o)
        rw [← hpo] at this ⊢
        exact this
      exact s_put k hM hL ok e12 (hmade fun c t k _ => Fc05.not_ c t k) o8 (filter_le ok.cat (ok.ii (Fc05.home p)) _) (ev_o rfl) (ev_n rfl) ((ev_not_part hM2 (ev_instance_of hM2 (ev_o rfl) hL2 o8 (ev_n rfl)) hin (ev_ixL (ev_Lpar T (ev_o rfl) hL2) (ev_n rfl) (parts_at ok p8))).eq implies_eq.symm)
theorem ok_call_forward {f : Addr} {fd : FuncData} (F : Fun K "call_forward" "call_forward" s_call_forward f fd) (T : Txt K mg CC CI CL WN) (g_put_part : DefOk P w K mg base 2 "put_part" ["line", "o", "part"] (sp_put_part CC CI CL)) (g_forward_part : DefOk P w K mg base 2 "forward_part" ["target", "moves", "p"] (sp_forward_part CC CI CL)) (g_chosen_moves : DefOk P w K mg base 3 "chosen_moves" ["line"] (sp_chosen_moves CC CI CL)) (g_refusal_along : DefOk P w K mg base 2 "refusal_along" ["line", "p", "i", "o", "j"] (sp_refusal_along CC CI CL)) : FnOk P w K mg base CX0 4 f fd ["line", "p", "o"] (sp_call_forward CC CI CL) := by
  refine F.ok sc_call_forward (fun vs H Q E h => ?_) (fun cdv A outer s H vs Q E hr h => ⟨_, (pss_cons (ps_set (i := 3) sc_call_forward.nd rfl (Or.inl rfl) (pe_callD g_refusal_along (hr.mono (by decide)) rfl (pa_cons (pv 0) (pa_cons (pv 1) (pa_cons pe_int (pa_cons (pv 2) (pa_cons pe_int pa_nil)))))))
    (pss_cons (ps_if (pt_cmpR op_ne (pv 3) (pe_gI T.c_NOT_REFUSED rfl) (nomark _)) (pss_one (ps_ret (pe_lst (pa_cons (pv 3) pa_nil)))) pss_nil)
    (pss_one (ps_ret (pe_callD g_put_part (hr.mono (by decide)) rfl (pa_cons (pv 0) (pa_cons (pv 2) (pa_cons (pe_callD g_forward_part (hr.mono (by decide)) rfl (pa_cons (pe_ix ix_list (pe_fld (pv 0) rfl) pe_int (fun _ _ => rfl)) (pa_cons (pe_callD g_chosen_moves (hr.mono (by decide)) rfl (pa_cons (pv 0) pa_nil)) (pa_cons (pe_ix ix_list (pe_fld (pv 0) rfl) (pv 1) (fun _ _ => rfl)) pa_nil)))) pa_nil)))))))), ?_⟩)
  · obtain ⟨_, _, _, _, _, _, _, rfl, _, ⟨_, _, rfl, _⟩, _⟩ := h
    rfl
  · obtain ⟨M, ln, s, n, L, rest, kk, rfl, hM, ⟨p, o, rfl, rfl⟩, hL, ok, hn, k⟩ := h
    refine s_asgS (M := M) (ev_refusal_along hM (ev_o rfl) hL (ev_n rfl) (ev_cn (n := 0)) (ev_n rfl) (ev_cn (n := 1))) fun v H1 e1 hv => ?_
    obtain rfl := Is.int hv
    refine s_ifN (et_test (M := M) (ev_neZ (ev_var rfl is_int) (ev_cz (z := 0)))) (fun hb H2 e2 => ?_) fun hb H2 e2 => ?_
    · have hb' : refA s p 0 o 1 ≠ 0 := by simpa using hb
      exact s_rq k hL (e1.trans e2) (along_ref (b := true) hb') (ev_ref1 (hM.mono (e1.trans e2)) (ev_var rfl is_int))
    · have hb' : refA s p 0 o 1 = 0 := by simpa using hb
      obtain ⟨p8, o8, mp, hw, hmoved⟩ := along_ok (b := true) hb'
      have e12 := e1.trans e2
      have hM2 := hM.mono e12
      have hL2 := hL.mono (hid_mono (M := M) e12)
      have hl := ok.wy mp hw
      have hml : (movesL s.cat s.a mp).length ≤ 6 := by
        unfold movesL
        rw [List.length_map, List.length_zipIdx]
        exact places_len ok.cat ok.ia
      have hP := ev_ixL (K := K) (ev_Lpar T (ev_o (i := 0) (σ := [some (.ref ln), some (.int p), some (.int o), some (.int (refA s p 0 o 1))]) rfl) hL2) (ev_n (i := 1) rfl) (parts_at ok p8)
      exact s_put k hM hL ok e12 (hmoved _) o8 (filter_le ok.cat ok.ib _) (ev_o rfl) (ev_n rfl) ((ev_forward_part hM2 (ev_Lins T (ev_o rfl) hL2 (by decide) (ev_cn (n := 1))) (hL2.inB ok) (by omega) (ev_chosen_moves hM2 (ev_o rfl) hL2 ok hw) hP).eq (forward_eq ok.cat ok.ia hl).symm)
theorem ok_call_back {f : Addr} {fd : FuncData} (F : Fun K "call_back" "call_back" s_call_back f fd) (T : Txt K mg CC CI CL WN) (g_put_part : DefOk P w K mg base 2 "put_part" ["line", "o", "part"] (sp_put_part CC CI CL)) (g_back_part : DefOk P w K mg base 1 "back_part" ["moves", "p"] (sp_back_part CC CI CL)) (g_chosen_moves : DefOk P w K mg base 3 "chosen_moves" ["line"] (sp_chosen_moves CC CI CL)) (g_refusal_along : DefOk P w K mg base 2 "refusal_along" ["line", "p", "i", "o", "j"] (sp_refusal_along CC CI CL)) : FnOk P w K mg base CX0 4 f fd ["line", "p", "o"] (sp_call_back CC CI CL) := by
  refine F.ok sc_call_back (fun vs H Q E h => ?_) (fun cdv A outer s H vs Q E hr h => ⟨_, (pss_cons (ps_set (i := 3) sc_call_back.nd rfl (Or.inl rfl) (pe_callD g_refusal_along (hr.mono (by decide)) rfl (pa_cons (pv 0) (pa_cons (pv 1) (pa_cons pe_int (pa_cons (pv 2) (pa_cons pe_int pa_nil)))))))
    (pss_cons (ps_if (pt_cmpR op_ne (pv 3) (pe_gI T.c_NOT_REFUSED rfl) (nomark _)) (pss_one (ps_ret (pe_lst (pa_cons (pv 3) pa_nil)))) pss_nil)
    (pss_one (ps_ret (pe_callD g_put_part (hr.mono (by decide)) rfl (pa_cons (pv 0) (pa_cons (pv 2) (pa_cons (pe_callD g_back_part (hr.mono (by decide)) rfl (pa_cons (pe_callD g_chosen_moves (hr.mono (by decide)) rfl (pa_cons (pv 0) pa_nil)) (pa_cons (pe_ix ix_list (pe_fld (pv 0) rfl) (pv 1) (fun _ _ => rfl)) pa_nil))) pa_nil)))))))), ?_⟩)
  · obtain ⟨_, _, _, _, _, _, _, rfl, _, ⟨_, _, rfl, _⟩, _⟩ := h
    rfl
  · obtain ⟨M, ln, s, n, L, rest, kk, rfl, hM, ⟨p, o, rfl, rfl⟩, hL, ok, hn, k⟩ := h
    refine s_asgS (M := M) (ev_refusal_along hM (ev_o rfl) hL (ev_n rfl) (ev_cn (n := 1)) (ev_n rfl) (ev_cn (n := 0))) fun v H1 e1 hv => ?_
    obtain rfl := Is.int hv
    refine s_ifN (et_test (M := M) (ev_neZ (ev_var rfl is_int) (ev_cz (z := 0)))) (fun hb H2 e2 => ?_) fun hb H2 e2 => ?_
    · have hb' : refA s p 1 o 0 ≠ 0 := by simpa using hb
      exact s_rq k hL (e1.trans e2) (along_ref (b := false) hb') (ev_ref1 (hM.mono (e1.trans e2)) (ev_var rfl is_int))
    · have hb' : refA s p 1 o 0 = 0 := by simpa using hb
      obtain ⟨p8, o8, mp, hw, hmoved⟩ := along_ok (b := false) hb'
      have e12 := e1.trans e2
      have hM2 := hM.mono e12
      have hL2 := hL.mono (hid_mono (M := M) e12)
      have hl := ok.wy mp hw
      have hml : (movesL s.cat s.a mp).length ≤ 6 := by
        unfold movesL
        rw [List.length_map, List.length_zipIdx]
        exact places_len ok.cat ok.ia
      have hP := ev_ixL (K := K) (ev_Lpar T (ev_o (i := 0) (σ := [some (.ref ln), some (.int p), some (.int o), some (.int (refA s p 1 o 0))]) rfl) hL2) (ev_n (i := 1) rfl) (parts_at ok p8)
      refine s_put k hM hL ok e12 (hmoved _) o8 ?_ (ev_o rfl) (ev_n rfl) ((ev_back_part hM2 (by omega) (ev_chosen_moves hM2 (ev_o rfl) hL2 ok hw) hP).eq (back_eq ok.cat ok.ia hl).symm)
      exact filter_le ok.cat ok.ia _
theorem ok_call_for_all {f : Addr} {fd : FuncData} (F : Fun K "call_for_all" "call_for_all" s_call_for_all f fd) (T : Txt K mg CC CI CL WN) (g_put_part : DefOk P w K mg base 2 "put_part" ["line", "o", "part"] (sp_put_part CC CI CL)) (g_for_all_part : DefOk P w K mg base 4 "for_all_part" ["target", "moves", "p"] (sp_for_all_part CC CI CL)) (g_chosen_moves : DefOk P w K mg base 3 "chosen_moves" ["line"] (sp_chosen_moves CC CI CL)) (g_refusal_along : DefOk P w K mg base 2 "refusal_along" ["line", "p", "i", "o", "j"] (sp_refusal_along CC CI CL)) : FnOk P w K mg base CX0 5 f fd ["line", "p", "o"] (sp_call_for_all CC CI CL) := by
  refine F.ok sc_call_for_all (fun vs H Q E h => ?_) (fun cdv A outer s H vs Q E hr h => ⟨_, (pss_cons (ps_set (i := 3) sc_call_for_all.nd rfl (Or.inl rfl) (pe_callD g_refusal_along (hr.mono (by decide)) rfl (pa_cons (pv 0) (pa_cons (pv 1) (pa_cons pe_int (pa_cons (pv 2) (pa_cons pe_int pa_nil)))))))
    (pss_cons (ps_if (pt_cmpR op_ne (pv 3) (pe_gI T.c_NOT_REFUSED rfl) (nomark _)) (pss_one (ps_ret (pe_lst (pa_cons (pv 3) pa_nil)))) pss_nil)
    (pss_one (ps_ret (pe_callD g_put_part (hr.mono (by decide)) rfl (pa_cons (pv 0) (pa_cons (pv 2) (pa_cons (pe_callD g_for_all_part (hr.mono (by decide)) rfl (pa_cons (pe_ix ix_list (pe_fld (pv 0) rfl) pe_int (fun _ _ => rfl)) (pa_cons (pe_callD g_chosen_moves (hr.mono (by decide)) rfl (pa_cons (pv 0) pa_nil)) (pa_cons (pe_ix ix_list (pe_fld (pv 0) rfl) (pv 1) (fun _ _ => rfl)) pa_nil)))) pa_nil)))))))), ?_⟩)
  · obtain ⟨_, _, _, _, _, _, _, rfl, _, ⟨_, _, rfl, _⟩, _⟩ := h
    rfl
  · obtain ⟨M, ln, s, n, L, rest, kk, rfl, hM, ⟨p, o, rfl, rfl⟩, hL, ok, hn, k⟩ := h
    refine s_asgS (M := M) (ev_refusal_along hM (ev_o rfl) hL (ev_n rfl) (ev_cn (n := 0)) (ev_n rfl) (ev_cn (n := 1))) fun v H1 e1 hv => ?_
    obtain rfl := Is.int hv
    refine s_ifN (et_test (M := M) (ev_neZ (ev_var rfl is_int) (ev_cz (z := 0)))) (fun hb H2 e2 => ?_) fun hb H2 e2 => ?_
    · have hb' : refA s p 0 o 1 ≠ 0 := by simpa using hb
      exact s_rq k hL (e1.trans e2) (along_ref (b := true) hb') (ev_ref1 (hM.mono (e1.trans e2)) (ev_var rfl is_int))
    · have hb' : refA s p 0 o 1 = 0 := by simpa using hb
      obtain ⟨p8, o8, mp, hw, hmoved⟩ := along_ok (b := true) hb'
      have e12 := e1.trans e2
      have hM2 := hM.mono e12
      have hL2 := hL.mono (hid_mono (M := M) e12)
      have hl := ok.wy mp hw
      have hml : (movesL s.cat s.a mp).length ≤ 6 := by
        unfold movesL
        rw [List.length_map, List.length_zipIdx]
        exact places_len ok.cat ok.ia
      have hP := ev_ixL (K := K) (ev_Lpar T (ev_o (i := 0) (σ := [some (.ref ln), some (.int p), some (.int o), some (.int (refA s p 0 o 1))]) rfl) hL2) (ev_n (i := 1) rfl) (parts_at ok p8)
      exact s_put k hM hL ok e12 (hmoved _) o8 (filter_le ok.cat ok.ib _) (ev_o rfl) (ev_n rfl) ((ev_for_all_part hM2 (ev_Lins T (ev_o rfl) hL2 (by decide) (ev_cn (n := 1))) (hL2.inB ok) (by omega) (ev_chosen_moves hM2 (ev_o rfl) hL2 ok hw) hP).eq (forAll_eq ok.cat ok.ia hl).symm)
theorem ok_call_nth {f : Addr} {fd : FuncData} (F : Fun K "call_nth" "call_nth" s_call_nth f fd) (T : Txt K mg CC CI CL WN) (g_put_part : DefOk P w K mg base 2 "put_part" ["line", "o", "part"] (sp_put_part CC CI CL)) (g_all_parts : DefOk P w K mg base 4 "all_parts" ["instance"] (sp_all_parts CC CI CL)) (g_instance_of : MetOk P w K mg base CL 1 "instance_of" ["self", "p"] (sp_instance_of CC CI CL)) (g_refusal_of_parts : DefOk P w K mg base 6 "refusal_of_parts" ["line", "numbers"] (sp_refusal_of_parts CC CI CL)) : FnOk P w K mg base CX0 7 f fd ["line", "p", "k"] (sp_call_nth CC CI CL) := by
  refine F.ok sc_call_nth (fun vs H Q E h => ?_) (fun cdv A outer s H vs Q E hr h => ⟨_, (pss_cons (ps_set (i := 3) sc_call_nth.nd rfl (Or.inl rfl) (pe_callD g_refusal_of_parts (hr.mono (by decide)) rfl (pa_cons (pv 0) (pa_cons (pe_lst (pa_cons (pv 1) pa_nil)) pa_nil))))
    (pss_cons (ps_if (pt_cmpR op_ne (pv 3) (pe_gI T.c_NOT_REFUSED rfl) (nomark _)) (pss_one (ps_ret (pe_lst (pa_cons (pv 3) pa_nil)))) pss_nil)
    (pss_cons (ps_set (i := 4) sc_call_nth.nd rfl (Or.inl rfl) (pe_callD g_all_parts (hr.mono (by decide)) rfl (pa_cons (pe_methD (pv 0) T.cCL g_instance_of (hr.mono (by decide)) (pa_cons (pv 1) pa_nil)) pa_nil)))
    (pss_cons (ps_if (pt_cmpR op_ge (pv 2) (pe_callB call_len_seq (by rfl) T.f_len PySem.boot_len (pa_cons (pv 4) pa_nil)) (nomark _)) (pss_one (ps_ret (pe_lst (pa_cons (pe_gI T.c_NO_SUCH_NUMBER rfl) pa_nil)))) pss_nil)
    (pss_one (ps_ret (pe_callD g_put_part (hr.mono (by decide)) rfl (pa_cons (pv 0) (pa_cons (pv 1) (pa_cons (pe_ix ix_list (pv 4) (pv 2) (fun _ _ => rfl)) pa_nil)))))))))), ?_⟩)
  · obtain ⟨_, _, _, _, _, _, _, rfl, _, ⟨_, _, rfl, _⟩, _⟩ := h
    rfl
  · obtain ⟨M, ln, s, n, L, rest, kk, rfl, hM, ⟨p, j, rfl, rfl⟩, hL, ok, hn, k⟩ := h
    refine s_asgS (M := M) (ev_refusal_of_parts hM (ev_o rfl) hL ok (ns := [p]) (fun z => nomatch z) (ev_lst1 hM (ev_n rfl))) fun v H1 e1 hv => ?_
    obtain rfl := Is.int hv
    refine s_ifN (et_test (M := M) (ev_neZ (ev_var rfl is_int) (ev_cz (z := 0)))) (fun hb H2 e2 => ?_) fun hb H2 e2 => ?_
    · have hb' : refB s [p] ≠ 0 := by simpa using hb
      refine s_rq k hL (e1.trans e2) ?_ (ev_ref1 (hM.mono (e1.trans e2)) (ev_var rfl is_int))
      rcases one_cases ok p with ⟨h1, h2⟩ | ⟨h1, h2, h3⟩ | ⟨h1, h2, h3⟩
      · show (if _ then _ else _) = _
        rw [if_pos h1, h2]
      · show (if _ then _ else _) = _
        rw [if_neg h1, if_pos h2, h3]
      · exact absurd h3 hb'
    · have hb' : refB s [p] = 0 := by simpa using hb
      rcases one_cases ok p with ⟨h1, h2⟩ | ⟨h1, h2, h3⟩ | ⟨h1, h2, h3⟩
      · rw [h2] at hb'; cases hb'
      · rw [h3] at hb'; cases hb'
      · have h8 : p < 8 := by omega
        have e12 := e1.trans e2
        have hM2 := hM.mono e12
        have hL2 := hL.mono (hid_mono (M := M) e12)
        refine s_asgS (M := M) (ev_all_parts hM2 (ev_instance_of hM2 (ev_o rfl) hL2 h8 (ev_n rfl)) (hL2.inI ok (Fc05.home p))) fun vf H3 e3 hvf => ?_
        have e13 := e12.trans e3
        have hM3 := hM.mono e13
        have hst : Fc05.step s (.nth p j) = (match (partsL s.cat (Fc05.instOf s p))[j]? with
            | none => (s, [-3])
            | some q => Fc05.withPart s p q) := by
          show (if _ then _ else _) = _
          rw [if_neg h1, if_neg (by rw [h2]; decide), parts_eq]
          cases (partsL s.cat (Fc05.instOf s p))[j]? <;> rfl
        refine s_ifN (et_test (M := M) (ev_ge (ev_n rfl) (ev_len (ev_d rfl hvf)))) (fun hb3 H4 e4 => ?_) fun hb3 H4 e4 => ?_
        · have hb4 : (partsL s.cat (Fc05.instOf s p)).length ≤ j := of_decide_eq_true hb3
          refine s_rq k hL (e13.trans e4) ?_ (ev_ref1 (hM3.mono e4) (ev_cz (z := -3)))
          rw [hst, List.getElem?_eq_none hb4]
        · have hb4 : j < (partsL s.cat (Fc05.instOf s p)).length := by
            have h : ¬ (partsL s.cat (Fc05.instOf s p)).length ≤ j := of_decide_eq_false hb3
            omega
          have hq := List.getElem?_eq_getElem hb4
          refine s_put k hM hL ok (e13.trans e4) (by rw [hst, hq]) h8 ?_ (ev_o rfl) (ev_n rfl) (ev_ixL (ev_d rfl (Is.mono (hid_mono e4) hvf)) (ev_n rfl) hq)
          have hm : (partsL s.cat (Fc05.instOf s p))[j] ∈ partsL s.cat (Fc05.instOf s p) := List.getElem_mem hb4
          have h5 := choices_short _ _ (List.mem_filter.mp hm).1
          have h6 : (Fc05.places s.cat (Fc05.instOf s p)).length ≤ 6 := places_len ok.cat (ok.ii (Fc05.home p))
          omega
theorem ok_call_count {f : Addr} {fd : FuncData} (F : Fun K "call_count" "call_count" s_call_count f fd) (T : Txt K mg CC CI CL WN) (g_all_parts : DefOk P w K mg base 4 "all_parts" ["instance"] (sp_all_parts CC CI CL)) (g_is_right : MetOk P w K mg base CI 5 "is_right" ["self"] (sp_is_right CC CI CL)) (g_has_instance : MetOk P w K mg base CL 1 "has_instance" ["self", "i"] (sp_has_instance CC CI CL)) : FnOk P w K mg base CX0 6 f fd ["line", "i"] (sp_call_count CC CI CL) := by
  refine F.ok sc_call_count (fun vs H Q E h => ?_) (fun cdv A outer s H vs Q E hr h => ⟨_, (pss_cons (ps_if (pt_not (pt_val (pe_methD (pv 0) T.cCL g_has_instance (hr.mono (by decide)) (pa_cons (pv 1) pa_nil)))) (pss_one (ps_ret (pe_lst (pa_cons (pe_gI T.c_NO_SUCH_INSTANCE rfl) pa_nil)))) pss_nil)
    (pss_cons (ps_set (i := 2) sc_call_count.nd rfl (Or.inl rfl) (pe_ix ix_list (pe_fld (pv 0) rfl) (pv 1) (fun _ _ => rfl)))
    (pss_cons (ps_if (pt_not (pt_val (pe_methD0 (pv 2) T.cCI g_is_right (hr.mono (by decide))))) (pss_one (ps_ret (pe_lst (pa_cons (pe_gI T.c_NOT_RIGHT rfl) pa_nil)))) pss_nil)
    (pss_one (ps_ret (pe_lst (pa_cons (pe_callB call_len_seq (by rfl) T.f_len PySem.boot_len (pa_cons (pe_callD g_all_parts (hr.mono (by decide)) rfl (pa_cons (pv 2) pa_nil)) pa_nil)) pa_nil))))))), ?_⟩)
  · obtain ⟨_, _, _, _, _, _, _, rfl, _, ⟨_, rfl, _⟩, _⟩ := h
    rfl
  · obtain ⟨M, ln, s, n, L, rest, kk, rfl, hM, ⟨i, rfl, rfl⟩, hL, ok, hn, k⟩ := h
    refine s_ifN (et_not (et_B (M := M) (ev_has_instance hM (ev_o rfl) hL (ev_n rfl)))) (fun hb H1 e1 => ?_) fun hb H1 e1 => ?_
    · have hb' : ¬ i < 2 := by simpa using hb
      exact s_rq k hL e1 (by show (s, _) = _; rw [if_pos (show 1 < i by omega)]) (ev_ref1 (hM.mono e1) (ev_cz (z := -2)))
    · have hb' : i < 2 := by simpa using hb
      have hM1 := hM.mono e1
      have hL1 := hL.mono (hid_mono (M := M) e1)
      refine s_asgS (M := M) (ev_Lins T (ev_o rfl) hL1 hb' (ev_n rfl)) fun vi H2 e2 hvi => ?_
      obtain rfl : vi = .ref (L.ins i) := hvi
      have e12 := e1.trans e2
      have hM2 := hM.mono e12
      have hL2 := hL.mono (hid_mono (M := M) e12)
      obtain ⟨c', hi, _, io⟩ := hL2.inI ok i
      have hst : Fc05.step s (.count i) = (s, if rightB s.cat (Fc05.inst s i) = false then [-6] else [((partsL s.cat (Fc05.inst s i)).length : Int)]) := by
        show (s, _) = _
        rw [if_neg (show ¬ 1 < i by omega), right_eq ok, parts_eq]
      refine s_ifN (et_not (et_B (M := M) (ev_is_right hM2 (ev_o rfl) hi ok.cat io))) (fun hb3 H3 e3 => ?_) fun hb3 H3 e3 => ?_
      · have hb4 : rightB s.cat (Fc05.inst s i) = false := by
          have h : (!rightB s.cat (Fc05.inst s i)) = true := hb3
          simpa using h
        exact s_rq k hL (e12.trans e3) (by rw [hst, if_pos hb4]) (ev_ref1 (hM2.mono e3) (ev_cz (z := -6)))
      · have hb4 : rightB s.cat (Fc05.inst s i) = true := by
          have h : (!rightB s.cat (Fc05.inst s i)) = false := hb3
          simpa using h
        have e13 := e12.trans e3
        exact s_rq k hL e13 (by rw [hst, if_neg (by rw [hb4]; decide)]) (ev_ref1 (hM.mono e13) (Ev.z (ev_len (ev_all_parts (hM.mono e13) (ev_o rfl) ((hL.mono (hid_mono (M := M) e13)).inI ok i)))))
theorem ok_call_sieves {f : Addr} {fd : FuncData} (F : Fun K "call_sieves" "call_sieves" s_call_sieves f fd) (T : Txt K mg CC CI CL WN) (g_closed_sets : DefOk P w K mg base 4 "closed_sets" ["category", "x"] (sp_closed_sets CC CI CL)) (g_is_category : MetOk P w K mg base CC 4 "is_category" ["self"] (sp_is_category CC CI CL)) : FnOk P w K mg base CX0 5 f fd ["line", "x"] (sp_call_sieves CC CI CL) := by
  refine F.ok sc_call_sieves (fun vs H Q E h => ?_) (fun cdv A outer s H vs Q E hr h => ⟨_, (pss_cons (ps_if (pt_not (pt_val (pe_methD0 (pe_fld (pv 0) rfl) T.cCC g_is_category (hr.mono (by decide))))) (pss_one (ps_ret (pe_lst (pa_cons (pe_gI T.c_NOT_RIGHT rfl) pa_nil)))) pss_nil)
    (pss_cons (ps_if (pt_cmpR op_ge (pv 1) (pe_fld (pe_fld (pv 0) rfl) rfl) (nomark _)) (pss_one (ps_ret (pe_lst (pa_cons (pe_gI T.c_UNFIT rfl) pa_nil)))) pss_nil)
    (pss_one (ps_ret (pe_lst (pa_cons (pe_callB call_len_seq (by rfl) T.f_len PySem.boot_len (pa_cons (pe_callD g_closed_sets (hr.mono (by decide)) rfl (pa_cons (pe_fld (pv 0) rfl) (pa_cons (pv 1) pa_nil))) pa_nil)) pa_nil)))))), ?_⟩)
  · obtain ⟨_, _, _, _, _, _, _, rfl, _, ⟨_, rfl, _⟩, _⟩ := h
    rfl
  · obtain ⟨M, ln, s, n, L, rest, kk, rfl, hM, ⟨x, rfl, rfl⟩, hL, ok, hn, k⟩ := h
    have hst : Fc05.step s (.sieves x) = (s, if catB s.cat = false then [-6] else if s.cat.n ≤ x then [-1] else [((Fc05.sieves s.cat x).length : Int)]) := by
      show (s, _) = _
      rw [isCat_eq ok.cat]
    refine s_ifN (et_not (et_B (M := M) (ev_is_category hM (ev_Lcat T (ev_o rfl) hL) hL.cat ok.cat))) (fun hb H1 e1 => ?_) fun hb H1 e1 => ?_
    · have hb' : catB s.cat = false := by simpa using hb
      exact s_rq k hL e1 (by rw [hst, if_pos hb']) (ev_ref1 (hM.mono e1) (ev_cz (z := -6)))
    · have hb' : catB s.cat = true := by simpa using hb
      have hM1 := hM.mono e1
      have hL1 := hL.mono (hid_mono (M := M) e1)
      refine s_ifN (et_test (M := M) (ev_ge (ev_n rfl) (ev_things T (ev_Lcat T (ev_o rfl) hL1) hL1.cat))) (fun hb2 H2 e2 => ?_) fun hb2 H2 e2 => ?_
      · exact s_rq k hL (e1.trans e2) (by rw [hst, if_neg (by rw [hb']; decide), if_pos (of_decide_eq_true hb2)]) (ev_ref1 (hM1.mono e2) (ev_cz (z := -1)))
      · have e12 := e1.trans e2
        have hL2 := hL.mono (hid_mono (M := M) e12)
        exact s_rq k hL e12 (by rw [hst, if_neg (by rw [hb']; decide), if_neg (of_decide_eq_false hb2), sieves_eq ok.cat hb']) (ev_ref1 (hM.mono e12) (Ev.z (ev_len (ev_closed_sets (hM.mono e12) (ev_Lcat T (ev_o rfl) hL2) hL2.cat ok.cat hb' (ev_n rfl)))))
theorem ok_call_check {f : Addr} {fd : FuncData} (F : Fun K "call_check" "call_check" s_call_check f fd) (T : Txt K mg CC CI CL WN) (g_first_fault : MetOk P w K mg base CI 4 "first_fault" ["self"] (sp_first_fault CC CI CL)) (g_is_category : MetOk P w K mg base CC 4 "is_category" ["self"] (sp_is_category CC CI CL)) (g_has_instance : MetOk P w K mg base CL 1 "has_instance" ["self", "i"] (sp_has_instance CC CI CL)) : FnOk P w K mg base CX0 5 f fd ["line", "i"] (sp_call_check CC CI CL) := by
  refine F.ok sc_call_check (fun vs H Q E h => ?_) (fun cdv A outer s H vs Q E hr h => ⟨_, (pss_cons (ps_if (pt_not (pt_val (pe_methD (pv 0) T.cCL g_has_instance (hr.mono (by decide)) (pa_cons (pv 1) pa_nil)))) (pss_one (ps_ret (pe_lst (pa_cons (pe_gI T.c_NO_SUCH_INSTANCE rfl) pa_nil)))) pss_nil)
    (pss_cons (ps_if (pt_not (pt_val (pe_methD0 (pe_fld (pv 0) rfl) T.cCC g_is_category (hr.mono (by decide))))) (pss_one (ps_ret (pe_lst (pa_cons (pe_gI T.c_NOT_RIGHT rfl) pa_nil)))) pss_nil)
    (pss_cons (ps_set (i := 2) sc_call_check.nd rfl (Or.inl rfl) (pe_methD0 (pe_ix ix_list (pe_fld (pv 0) rfl) (pv 1) (fun _ _ => rfl)) T.cCI g_first_fault (hr.mono (by decide))))
    (pss_cons (ps_if (pt_cmpR (op_eqD hr.units) (pv 2) (pe_lst pa_nil) (nomark _)) (pss_one (ps_ret (pe_lst (pa_cons pe_int pa_nil)))) pss_nil)
    (pss_one (ps_ret (pv 2))))))), ?_⟩)
  · obtain ⟨_, _, _, _, _, _, _, rfl, _, ⟨_, rfl, _⟩, _⟩ := h
    rfl
  · obtain ⟨M, ln, s, n, L, rest, kk, rfl, hM, ⟨i, rfl, rfl⟩, hL, ok, hn, k⟩ := h
    refine s_ifN (et_not (et_B (M := M) (ev_has_instance hM (ev_o rfl) hL (ev_n rfl)))) (fun hb H1 e1 => ?_) fun hb H1 e1 => ?_
    · have hb' : ¬ i < 2 := by simpa using hb
      exact s_rq k hL e1 (by show (s, _) = _; rw [if_pos (show 1 < i by omega)]) (ev_ref1 (hM.mono e1) (ev_cz (z := -2)))
    · have hb' : i < 2 := by simpa using hb
      have hM1 := hM.mono e1
      have hL1 := hL.mono (hid_mono (M := M) e1)
      refine s_ifN (et_not (et_B (M := M) (ev_is_category hM1 (ev_Lcat T (ev_o rfl) hL1) hL1.cat ok.cat))) (fun hb2 H2 e2 => ?_) fun hb2 H2 e2 => ?_
      · have hb3 : catB s.cat = false := by simpa using hb2
        exact s_rq k hL (e1.trans e2) (by show (s, _) = _; rw [if_neg (show ¬ 1 < i by omega), isCat_eq ok.cat, if_pos hb3]) (ev_ref1 (hM1.mono e2) (ev_cz (z := -6)))
      · have hb3 : catB s.cat = true := by simpa using hb2
        have e12 := e1.trans e2
        have hM2 := hM.mono e12
        have hL2 := hL.mono (hid_mono (M := M) e12)
        obtain ⟨c', hi, _, io⟩ := hL2.inI ok i
        have hst : Fc05.step s (.check i) = (s, if faultL s.cat (Fc05.inst s i) = [] then [0] else Fc05.ints (faultL s.cat (Fc05.inst s i))) := by
          show (s, _) = _
          rw [if_neg (show ¬ 1 < i by omega), isCat_eq ok.cat, if_neg (by rw [hb3]; decide), fault_eq ok.cat (ok.ii i) hb3]
          by_cases q : faultL s.cat (Fc05.inst s i) = []
          · rw [if_pos q, if_pos q]
          · rw [if_neg q, if_neg q]
        refine s_asgS (M := M) (ev_first_fault hM2 (ev_Lins T (ev_o rfl) hL2 hb' (ev_n rfl)) hi ok.cat io hb3) fun vf H3 e3 hvf => ?_
        have e13 := e12.trans e3
        refine s_ifN (et_test (M := M) (ev_eqD (a := faultL s.cat (Fc05.inst s i)) (b := []) (by decide) (ev_d rfl hvf) (ev_lst0 (hM.mono e13)))) (fun hb4 H4 e4 => ?_) fun hb4 H4 e4 => ?_
        · exact s_rq k hL (e13.trans e4) (by rw [hst, if_pos (of_decide_eq_true hb4)]) (ev_ref1 (hM.mono (e13.trans e4)) (ev_cz (z := 0)))
        · exact s_rq k hL (e13.trans e4) (by rw [hst, if_neg (of_decide_eq_false hb4)]) (Ev.zs (ev_d rfl (Is.mono (hid_mono e4) hvf)))
end
end Im

namespace Im
open PySem PySem.Spec PyProof.Rows L2
section
variable {G G' : Hp}
mutual
theorem Da.map (e : ∀ a xs, G a = some (.lst xs) → G' a = some (.lst xs)) (e' : ∀ a xs, G a = some (.tup xs) → G' a = some (.tup xs)) : ∀ (d : PyData) (v : V), Da G v d → Da G' v d
  | .none, _, h => by cases h; exact .non
  | .bool _, _, h => by cases h; exact .bl _
  | .int _, _, h => by cases h; exact .int _
  | .str _, _, h => by cases h
  | .list ds, _, h => by
    cases h with
    | lst h1 h2 => exact .lst (e _ _ h1) (DaAll.map e e' ds _ h2)
  | .tuple ds, _, h => by
    cases h with
    | tup h1 h2 => exact .tup (e' _ _ h1) (DaAll.map e e' ds _ h2)
  | .dict _, _, h => by cases h
theorem DaAll.map (e : ∀ a xs, G a = some (.lst xs) → G' a = some (.lst xs)) (e' : ∀ a xs, G a = some (.tup xs) → G' a = some (.tup xs)) : ∀ (ds : List PyData) (vs : List V), DaAll G vs ds → DaAll G' vs ds
  | [], _, h => by cases h; exact .nil
  | d :: ds, _, h => by
    cases h with
    | cons h1 h2 => exact .cons (Da.map e e' d _ h1) (DaAll.map e e' ds _ h2)
end
theorem is_updI {α : Type} [Enc α] {x C dx : Addr} {fs : List (Str × V)} {o : HO} {v : V} {a : α} (hx : G x = some (.ins C dx fs)) (h : Is G v a) : Is (upd G x o) v a :=
  Da.map (fun b xs q => by rw [upd_ne (ne_of q hx fun z => nomatch z)]; exact q) (fun b xs q => by rw [upd_ne (ne_of q hx fun z => nomatch z)]; exact q) _ _ h
end
theorem rg2 (r : Nat) (h : r ≤ 1000) : RgC 0 ((2 * r : Nat) : Int) 2 r := by
  have hs : Builtin.Range.rangeSize 0 ((2 * r : Nat) : Int) 2 = (r : Int) := by
    unfold Builtin.Range.rangeSize
    rw [if_pos (by decide)]
    split <;> omega
  refine ⟨by decide, by decide, ?_, hs⟩
  have fit : ∀ x : Int, 0 ≤ x → x ≤ 5000 → Builtin.Range.rangeFitsLong x = true := by
    intro x h1 h2
    unfold Builtin.Range.rangeFitsLong
    rw [Bool.and_eq_true]
    exact ⟨decide_eq_true (by omega), decide_eq_true (by omega)⟩
  unfold Builtin.Range.small
  rw [hs, fit 0 (by omega) (by omega), fit _ (by omega) (by omega), fit 2 (by omega) (by omega), fit _ (by omega) (by omega), if_pos (by decide), fit _ (by omega) (by omega)]
  simp
theorem pairsIn_spec : ∀ (nums : List Nat) (l : List (Nat × Nat)), Fc05Neutral.pairsIn nums = some l → nums.length = 2 * l.length ∧ ∀ i, i < l.length → nums[2 * i]? = some (l.getD i (0, 0)).1 ∧ nums[2 * i + 1]? = some (l.getD i (0, 0)).2
  | [], l, h => by
    obtain rfl : [] = l := Option.some.inj h
    exact ⟨rfl, fun i hi => by cases hi⟩
  | [a], l, h => by cases h
  | a :: b :: nums, l, h => by
    have h' : (Fc05Neutral.pairsIn nums).map (fun r => (a, b) :: r) = some l := h
    obtain ⟨r, h1, rfl⟩ := Option.map_eq_some_iff.mp h'
    obtain ⟨h2, h3⟩ := pairsIn_spec nums r h1
    refine ⟨by simp only [List.length_cons]; omega, fun i hi => ?_⟩
    cases i with
    | zero => exact ⟨rfl, rfl⟩
    | succ i =>
      have := h3 i (by simpa using hi)
      rw [show 2 * (i + 1) = 2 * i + 1 + 1 by omega]
      exact this
theorem lc_rangeC {lo c : Int} {n : Nat} {g : TG} {tt : TT} {te : TE} {vs : List Nat} {σ : L2.St} {H1 : Hp} {D : Addr} {Qd : Hp → Prop} (Pv : Nat → Hp → Prop) (h0 : Pv 0 (upd H1 D (.lst [])))
    (hs : ∀ i H, i < n → Pv i H → g (.int (lo + (i : Nat) * c)) (wipe σ vs) H fun σ2 H2 => wipe σ2 vs = wipe σ vs ∧ tt σ2 H2 fun b H3 =>
      if b = true then te σ2 H3 fun y H4 => ∃ acc, H4 D = some (.lst acc) ∧ acc.length < sizeLine ∧ Pv (i + 1) (upd H4 D (.lst (acc ++ [y]))) else Pv (i + 1) H3) (hd : ∀ H, Pv n H → Qd H) :
    ∃ W : Nat → Nat → Hp → Prop, (∃ m, W 0 m (upd H1 D (.lst []))) ∧ ∀ i m H, W i m H →
      ((Itc lo c n).stop i H ∧ Qd H) ∨ ((Itc lo c n).go i H ∧ ∃ Nx : Hp → Prop, (∀ H', Nx H' → ∃ m', m' < m ∧ W (i + 1) m' H') ∧ ∀ x H', (Itc lo c n).yld i H x H' → g x (wipe σ vs) H' fun σ2 H2 => wipe σ2 vs = wipe σ vs ∧ tt σ2 H2 fun b H3 =>
        if b = true then te σ2 H3 fun y H4 => ∃ acc, H4 D = some (.lst acc) ∧ acc.length < sizeLine ∧ Nx (upd H4 D (.lst (acc ++ [y]))) else Nx H3) := by
  refine ⟨fun i m H => m = n - i ∧ i ≤ n ∧ Pv i H, ⟨n, by simp, Nat.zero_le _, h0⟩, ?_⟩
  rintro i m H ⟨rfl, hi, p⟩
  by_cases hlt : i < n
  · refine .inr ⟨hlt, Pv (i + 1), fun H' p' => ⟨n - (i + 1), by omega, rfl, hlt, p'⟩, fun x H' y => ?_⟩
    obtain ⟨e, y⟩ := y
    subst e y
    exact hs i _ hlt p
  · have e : i = n := by omega
    subst e
    exact .inl ⟨Nat.le_refl _, hd H p⟩
theorem ev_lcR2 {β : Type} [Enc β] {M : Addr → Prop} {σ : L2.St} {H : Hp} {te : TE} {r : Nat} {ta : TA} {j : Nat} {vs : List Nat} (hM : Tr M H) (hn : EvA M ta σ H [.is 0, .is (2 * r), .is 2]) (hz : r ≤ 1000) (f : Nat → β) (hw : ∀ x, wipe ((wipe σ vs).set j (some x)) vs = wipe σ vs)
    (he : ∀ (i : Nat) M' H2, Le M H M' H2 → i < r → Ev M' te ((wipe σ vs).set j (some (.int ((2 * i : Nat) : Int)))) H2 (.is (f i))) :
    Ev M (tLc (iRng3 ta) (gName j) tYes te vs) σ H (.is ((List.range r).map f)) := fun H0 e Q q => hn H0 e _ fun ws H1 e1 hw1 => by
  obtain ⟨w0, w1, w2, rfl, q0, q1, q2⟩ := hw1.three
  obtain rfl := Is.nat q0
  obtain rfl := Is.nat q1
  obtain rfl := Is.nat q2
  have eT := hM.mono (e.trans e1)
  refine ⟨0, ((2 * r : Nat) : Int), 2, r, rfl, rg2 r hz, fun D hD => ?_⟩
  refine lc_rangeC (lo := 0) (c := 2) (n := r) (fun i H' => Cw M H1 D (((List.range r).take i).map f) H') Cw.start (fun i H' hi c => ?_) fun H' c => ?_
  · have e0 : (0 : Int) + ((i : Nat) : Int) * 2 = ((2 * i : Nat) : Int) := by omega
    show wipe ((wipe σ vs).set j (some (.int ((0 : Int) + ((i : Nat) : Int) * 2)))) vs = wipe σ vs ∧ _
    rw [e0]
    refine ⟨hw _, ?_⟩
    have le' := (Le.of hM (e.trans e1)).trans (c.le eT hD)
    have hx : (List.range r)[i]? = some i := List.getElem?_range hi
    have := cw_turn (tt := tYes) (te := te) (y := f i) (b := true) c (by rw [List.length_map, List.length_take, List.length_range]; omega) et_yes fun hb => he i _ H' le' hi
    rw [tk_more hx, List.map_append]
    exact this
  · have e2 := c.is eT hD
    have e3 : (List.range r).take r = List.range r := List.take_of_length_le (by rw [List.length_range]; omega)
    rw [e3] at e2
    exact q _ _ (e1.trans (c.same hD)) e2
theorem right_gap {m : Fc05.Cat} {t : Fc05.Inst} (h : rightB m t = true) : catB m = true ∧ gapO m t = none := by
  unfold rightB at h
  rw [Bool.and_eq_true] at h
  refine ⟨h.1, ?_⟩
  have h2 := of_decide_eq_true h.2
  cases e : gapO m t with
  | none => rfl
  | some l =>
    unfold faultL at h2
    rw [e] at h2
    exact absurd h2 (gapO_ne e)
section
variable {P : Program} {w : World} {K : PySem.W.Frag} {mg : Str → Option Value} {base : Heap} {CC CI CL WN : Addr}
theorem ok_call_part {f : Addr} {fd : FuncData} (F : Fun K "call_part" "call_part" s_call_part f fd) (T : Txt K mg CC CI CL WN) (g_put_part : DefOk P w K mg base 2 "put_part" ["line", "o", "part"] (sp_put_part CC CI CL)) (g_brought_part : DefOk P w K mg base 3 "brought_part" ["instance", "rows"] (sp_brought_part CC CI CL)) (g_has_row : MetOk P w K mg base CI 1 "has_row" ["self", "x", "r"] (sp_has_row CC CI CL)) (g_instance_of : MetOk P w K mg base CL 1 "instance_of" ["self", "p"] (sp_instance_of CC CI CL)) (g_refusal_of_parts : DefOk P w K mg base 6 "refusal_of_parts" ["line", "numbers"] (sp_refusal_of_parts CC CI CL)) : FnOk P w K mg base CX0 7 f fd ["line", "p", "numbers"] (sp_call_part CC CI CL) := by
  refine F.ok sc_call_part (fun vs H Q E h => ?_) (fun cdv A outer s H vs Q E hr h => ⟨_, (pss_cons (ps_set (i := 3) sc_call_part.nd rfl (Or.inl rfl) (pe_callD g_refusal_of_parts (hr.mono (by decide)) rfl (pa_cons (pv 0) (pa_cons (pe_lst (pa_cons (pv 1) pa_nil)) pa_nil))))
    (pss_cons (ps_if (pt_cmpR op_ne (pv 3) (pe_gI T.c_NOT_REFUSED rfl) (nomark _)) (pss_one (ps_ret (pe_lst (pa_cons (pv 3) pa_nil)))) pss_nil)
    (pss_cons (ps_set (i := 4) sc_call_part.nd rfl (Or.inl rfl) (pe_methD (pv 0) T.cCL g_instance_of (hr.mono (by decide)) (pa_cons (pv 1) pa_nil)))
    (pss_cons (ps_setLc (i := 5) (own := [("k", 7)]) (g := gName 7) (tt := tYes) (te := (tTup (tCons (tOp (rIxL K) (tVar 2) (tVar 7)) (tCons (tOp (rIxL K) (tVar 2) (tOp (rI0 fun i j => .int (i + j)) (tVar 7) (tC (.int 1)))) tNil)))) rfl sc_call_part.nd rfl rfl (sw_true rfl rfl rfl (by decide +kernel)) (pi_range3 (by rfl) T.f_range (pa_cons pe_int (pa_cons (pe_callB call_len_seq (by rfl) T.f_len PySem.boot_len (pa_cons (pv 2) pa_nil)) (pa_cons pe_int pa_nil)))) (blkOk_by (own := [("k", 7)]) (N := ["line", "p", "numbers", "refusal", "instance", "rows", "row", "k"]) (sc := defScope s_call_part) (by decide +kernel)) (fun _ _ _ _ _ => pg_name (i := 7) sc_call_part.nd rfl (Or.inl rfl)) (fun _ _ _ _ _ => pts_nil) (fun _ _ _ _ _ => (pe_tup (pa_cons (pe_ix ix_list (pv 2) (pv 7) (fun _ _ => rfl)) (pa_cons (pe_ix ix_list (pv 2) (pe_op op_add (pv 7) pe_int) (fun _ _ => rfl)) pa_nil)))))
    (pss_cons (ps_for PassesOwn.never rfl (pi_list (pv 5)) (pg_name (i := 6) sc_call_part.nd rfl (Or.inl rfl)) (pss_one (ps_if (pt_not (pt_val (pe_methD (pv 4) T.cCI g_has_row (hr.mono (by decide)) (pa_cons (pe_ix ix_tup (pv 6) pe_int (fun _ _ => rfl)) (pa_cons (pe_ix ix_tup (pv 6) pe_int (fun _ _ => rfl)) pa_nil))))) (pss_one (ps_ret (pe_lst (pa_cons (pe_gI T.c_UNFIT rfl) pa_nil)))) pss_nil)))
    (pss_one (ps_ret (pe_callD g_put_part (hr.mono (by decide)) rfl (pa_cons (pv 0) (pa_cons (pv 1) (pa_cons (pe_callD g_brought_part (hr.mono (by decide)) rfl (pa_cons (pv 4) (pa_cons (pv 5) pa_nil))) pa_nil))))))))))), ?_⟩)
  · obtain ⟨_, _, _, _, _, _, _, rfl, _, ⟨_, _, _, _, rfl, _⟩, _⟩ := h
    rfl
  · obtain ⟨M, ln, s, n, L, rest, kk, rfl, hM, ⟨p, vn, nums, l, rfl, hvn, hnl, hpairs, rfl⟩, hL, ok, hn, k⟩ := h
    obtain ⟨hlen, hpr⟩ := pairsIn_spec nums l hpairs
    refine s_asgS (M := M) (ev_refusal_of_parts hM (ev_o rfl) hL ok (ns := [p]) (fun z => nomatch z) (ev_lst1 hM (ev_n rfl))) fun v H1 e1 hv => ?_
    obtain rfl := Is.int hv
    refine s_ifN (et_test (M := M) (ev_neZ (ev_var rfl is_int) (ev_cz (z := 0)))) (fun hb H2 e2 => ?_) fun hb H2 e2 => ?_
    · have hb' : refB s [p] ≠ 0 := by simpa using hb
      refine s_rq k hL (e1.trans e2) ?_ (ev_ref1 (hM.mono (e1.trans e2)) (ev_var rfl is_int))
      rcases one_cases ok p with ⟨h1, h2⟩ | ⟨h1, h2, h3⟩ | ⟨h1, h2, h3⟩
      · show (if _ then _ else _) = _
        rw [if_pos h1, h2]
      · show (if _ then _ else _) = _
        rw [if_neg h1, if_pos h2, h3]
      · exact absurd h3 hb'
    · have hb' : refB s [p] = 0 := by simpa using hb
      rcases one_cases ok p with ⟨h1, h2⟩ | ⟨h1, h2, h3⟩ | ⟨h1, h2, h3⟩
      · rw [h2] at hb'; cases hb'
      · rw [h3] at hb'; cases hb'
      · have h8 : p < 8 := by omega
        have e12 := e1.trans e2
        have hM2 := hM.mono e12
        have hL2 := hL.mono (hid_mono (M := M) e12)
        refine s_asgS (M := M) (ev_instance_of hM2 (ev_o rfl) hL2 h8 (ev_n rfl)) fun vi H3 e3 hvi => ?_
        obtain rfl : vi = .ref (L.ins (Fc05.home p)) := hvi
        have e13 := e12.trans e3
        have hM3 := hM.mono e13
        have hvn3 := Is.mono (hid_mono (M := M) e13) hvn
        have hrows : (List.range l.length).map (fun i => l.getD i (0, 0)) = l := by
          refine List.ext_getElem (by rw [List.length_map, List.length_range]) fun i h1 h2 => ?_
          rw [List.getElem_map, List.getElem_range, List.getD_eq_getElem?_getD, List.getElem?_eq_getElem h2]
          rfl
        refine s_asgS (M := M) (P := .is l) ((ev_lcR2 (r := l.length) (f := fun i => l.getD i (0, 0)) hM3 (ea_cons (ev_cn (n := 0)) (ea_cons ((ev_len (ev_d rfl hvn3)).eq hlen) (ea_cons (ev_cn (n := 2)) ea_nil))) (by omega) (fun _ => rfl) fun i M' H' le hi => ev_tup (tr := tNil) le.tr (ev_ixL (ev_d rfl (Is.mono le.same hvn3)) (ev_n (n := 2 * i) rfl) (hpr i hi).1) (ev_ixL (ev_d rfl (Is.mono le.same hvn3)) (ev_add (ev_n (n := 2 * i) rfl) (ev_cn (n := 1))) (hpr i hi).2)).eq hrows) fun vr H4 e4 hvr => ?_
        have e14 := e13.trans e4
        have hst : Fc05.step s (.part p l) = if l.all (fun r => hasRow s.cat (Fc05.instOf s p) r.1 r.2) = false then (s, [-1]) else Fc05.withPart s p (broughtL s.cat (Fc05.instOf s p) l) := by
          show (if _ then _ else _) = _
          rw [if_neg h1, if_neg (by rw [h2]; decide), brought_eq]
          have : (fun r => (Fc05.places s.cat (Fc05.instOf s p)).contains r) = fun (r : Nat × Nat) => hasRow s.cat (Fc05.instOf s p) r.1 r.2 := by
            funext r
            exact hasRow_eq
          rw [this]
        refine s_forPS (M := M) (src := l) (ev_d rfl hvr) (fun j σ' => (∃ y z, σ' = [some (.ref ln), some (.int p), some vn, some (.int (refB s [p])), some (.ref (L.ins (Fc05.home p))), some vr, y, z]) ∧ (l.take j).all (fun r => hasRow s.cat (Fc05.instOf s p) r.1 r.2) = true) ⟨⟨_, _, rfl⟩, rfl⟩ ?_ ?_
        · rintro j ⟨x, r⟩ vx σ' H5 N e5 hx ⟨⟨y, z, rfl⟩, hall⟩ hvx nx
          have e15 := e14.trans e5
          have hM5 := hM.mono e15
          have hL5 := hL.mono (hid_mono (M := M) e15)
          obtain ⟨c', hi, _, io⟩ := hL5.inI ok (Fc05.home p)
          refine s_if (et_not (et_B (M := M) (ev_has_row hM5 (ev_o rfl) hi io (ev_ix0 (y := r) (ev_d rfl hvx)) (ev_ix1 (x := x) (ev_d rfl hvx))))) (fun hb3 H6 e6 => ?_) fun hb3 H6 e6 => ?_
          · have hb4 : hasRow s.cat (Fc05.instOf s p) x r = false := by
              have h : (!hasRow s.cat (Fc05.instOf s p) x r) = true := hb3
              simpa using h
            refine s_rq k hL (e15.trans e6) ?_ (ev_ref1 (hM5.mono e6) (ev_cz (z := -1)))
            rw [hst, if_pos]
            rw [List.all_eq_false]
            exact ⟨(x, r), List.mem_of_getElem? hx, by rw [hb4]; exact Bool.false_ne_true⟩
          · have hb4 : hasRow s.cat (Fc05.instOf s p) x r = true := by
              have h : (!hasRow s.cat (Fc05.instOf s p) x r) = false := hb3
              simpa using h
            refine nx _ _ ⟨⟨_, _, rfl⟩, ?_⟩ e6
            rw [tk_more hx, List.all_append, hall, List.all_cons, hb4]
            rfl
        · rintro σ' H5 e5 ⟨⟨y, z, rfl⟩, hall⟩
          rw [List.take_length] at hall
          have e15 := e14.trans e5
          have hM5 := hM.mono e15
          have hL5 := hL.mono (hid_mono (M := M) e15)
          refine s_put k hM hL ok e15 (by rw [hst, if_neg (by rw [hall]; decide)]; rfl) h8 (filter_le ok.cat (ok.ii (Fc05.home p)) _) (ev_o rfl) (ev_n rfl) (ev_brought_part hM5 (ev_o rfl) (hL5.inI ok (Fc05.home p)) (by omega) (fun r hr => ?_) (ev_d rfl (Is.mono (hid_mono e5) hvr)))
          have h5 := List.all_eq_true.mp hall r hr
          unfold hasRow at h5
          rw [Bool.and_eq_true] at h5
          exact of_decide_eq_true h5.2
theorem ok_call_way {f : Addr} {fd : FuncData} (F : Fun K "call_way" "call_way" s_call_way f fd) (T : Txt K mg CC CI CL WN) (g_maps_between : DefOk P w K mg base 3 "maps_between" ["source", "target"] (sp_maps_between CC CI CL)) (g_is_right : MetOk P w K mg base CI 5 "is_right" ["self"] (sp_is_right CC CI CL)) : FnOk P w K mg base CX0 6 f fd ["line", "k"] (sp_call_way CC CI CL) := by
  refine F.ok sc_call_way (fun vs H Q E h => ?_) (fun cdv A outer s H vs Q E hr h => ⟨_, (pss_cons (ps_for PassesOwn.never rfl (pi_list (pe_fld (pv 0) rfl)) (pg_name (i := 2) sc_call_way.nd rfl (Or.inl rfl)) (pss_one (ps_if (pt_not (pt_val (pe_methD0 (pv 2) T.cCI g_is_right (hr.mono (by decide))))) (pss_one (ps_ret (pe_lst (pa_cons (pe_gI T.c_NOT_RIGHT rfl) pa_nil)))) pss_nil)))
    (pss_cons (ps_set (i := 3) sc_call_way.nd rfl (Or.inl rfl) (pe_callD g_maps_between (hr.mono (by decide)) rfl (pa_cons (pe_ix ix_list (pe_fld (pv 0) rfl) pe_int (fun _ _ => rfl)) (pa_cons (pe_ix ix_list (pe_fld (pv 0) rfl) pe_int (fun _ _ => rfl)) pa_nil))))
    (pss_cons (ps_if (pt_cmpR op_ge (pv 1) (pe_callB call_len_seq (by rfl) T.f_len PySem.boot_len (pa_cons (pv 3) pa_nil)) (nomark _)) (pss_one (ps_ret (pe_lst (pa_cons (pe_gI T.c_NO_SUCH_MAP rfl) pa_nil)))) pss_nil)
    (pss_cons (ps_fld (pv 0) (pe_ix ix_list (pv 3) (pv 1) (fun _ _ => rfl)) rfl)
    (pss_one (ps_ret (pe_op op_cat (pe_lst (pa_cons (pe_callB call_len_seq (by rfl) T.f_len PySem.boot_len (pa_cons (pv 3) pa_nil)) pa_nil)) (pe_ix ix_list (pv 3) (pv 1) (fun _ _ => rfl))))))))), ?_⟩)
  · obtain ⟨_, _, _, _, _, _, _, rfl, _, ⟨_, rfl, _⟩, _⟩ := h
    rfl
  · obtain ⟨M, ln, s, n, L, rest, kk, rfl, hM, ⟨j, rfl, rfl⟩, hL, ok, hn, k⟩ := h
    have hln := hid_sub _ _ hL.ln_
    refine s_seq ?_
    refine ⟨.ref ln, rfl, ln, CL, L.dxl, _, .ref L.il, rfl, hln, T.cCL, T.nCL_instances, lkIns, L.il, rfl, ⟨_, SqL.of (hid_sub _ _ hL.il_)⟩, ?_⟩
    have hr0 := right_eq ok 0
    have hr1 := right_eq ok 1
    refine for_list (xs := [.ref L.A.i, .ref L.B.i]) (fun i σ' H' => (∃ y z, σ' = [some (.ref ln), some (.int j), y, z]) ∧ Same H H' ∧ ∀ i', i' < i → rightB s.cat (Fc05.inst s i') = true) ⟨⟨_, _, rfl⟩, Same.refl _, fun i' h => by cases h⟩ (fun i σ' H' _ p => SqL.of (hid_sub _ _ (hid_mono p.2.1 _ _ hL.il_))) ?_ ?_
    · rintro i v σ' H1 hi ⟨⟨y, z, rfl⟩, e1, hall⟩
      have hM1 := hM.mono e1
      have hL1 := hL.mono (hid_mono (M := M) e1)
      have hi2 : i < 2 := (List.getElem?_eq_some_iff.mp hi).1
      obtain rfl : v = .ref (L.ins i) := by
        have : i = 0 ∨ i = 1 := by omega
        rcases this with rfl | rfl
        · exact (Option.some.inj hi).symm
        · exact (Option.some.inj hi).symm
      obtain ⟨c', hin, _, io⟩ := hL1.inI ok i
      refine s_if (et_not (et_B (M := M) (ev_is_right hM1 (ev_o rfl) hin ok.cat io))) (fun hb H2 e2 => ?_) fun hb H2 e2 => ?_
      · have hb' : rightB s.cat (Fc05.inst s i) = false := by
          have h : (!rightB s.cat (Fc05.inst s i)) = true := hb
          simpa using h
        refine s_rq k hL (e1.trans e2) ?_ (ev_ref1 (hM1.mono e2) (ev_cz (z := -6)))
        show (if _ then _ else _) = _
        rw [if_pos]
        have : i = 0 ∨ i = 1 := by omega
        rcases this with rfl | rfl
        · exact .inl (by rw [hr0]; exact hb')
        · exact .inr (by rw [hr1]; exact hb')
      · have hb' : rightB s.cat (Fc05.inst s i) = true := by
          have h : (!rightB s.cat (Fc05.inst s i)) = false := hb
          simpa using h
        refine ⟨⟨_, _, rfl⟩, e1.trans e2, fun i' h => ?_⟩
        by_cases q : i' = i
        · rw [q]
          exact hb'
        · exact hall i' (by omega)
    · rintro σ' H1 ⟨⟨y, z, rfl⟩, e1, hall⟩
      have r0 : rightB s.cat s.a = true := hall 0 (show 0 < 2 by decide)
      have r1 : rightB s.cat s.b = true := hall 1 (show 1 < 2 by decide)
      have hM1 := hM.mono e1
      have hL1 := hL.mono (hid_mono (M := M) e1)
      obtain ⟨hcat, hgap⟩ := right_gap r0
      have hst : Fc05.step s (.way j) = (match (mapsL s.cat s.a s.b)[j]? with
          | none => (s, [-3])
          | some m => (⟨s.cat, s.a, s.b, some m, s.parts⟩, Fc05.ints ((mapsL s.cat s.a s.b).length :: m))) := by
        show (if _ then _ else _) = _
        have h0 : Fc05.right s 0 = true := by rw [hr0]; exact r0
        have h1 : Fc05.right s 1 = true := by rw [hr1]; exact r1
        rw [if_neg (by rw [h0, h1]; decide)]
        rw [maps_eq ok.cat ok.ia ok.ib r0 r1]
        cases (mapsL s.cat s.a s.b)[j]? <;> rfl
      refine s_asgS (M := M) (ev_maps_between hM1 (ev_Lins T (ev_o rfl) hL1 (by decide) (ev_cn (n := 0))) (ev_Lins T (ev_o rfl) hL1 (by decide) (ev_cn (n := 1))) (hL1.inA ok) (hL1.inB ok) hgap) fun vf H2 e2 hvf => ?_
      have e12 := e1.trans e2
      refine s_ifN (et_test (M := M) (ev_ge (ev_n rfl) (ev_len (ev_d rfl hvf)))) (fun hb3 H3 e3 => ?_) fun hb3 H3 e3 => ?_
      · have hb4 : (mapsL s.cat s.a s.b).length ≤ j := of_decide_eq_true hb3
        refine s_rq k hL (e12.trans e3) ?_ (ev_ref1 (hM.mono (e12.trans e3)) (ev_cz (z := -3)))
        rw [hst, List.getElem?_eq_none hb4]
      · have hb4 : j < (mapsL s.cat s.a s.b).length := by
          have h : ¬ (mapsL s.cat s.a s.b).length ≤ j := of_decide_eq_false hb3
          omega
        have hq := List.getElem?_eq_getElem hb4
        generalize hmp : (mapsL s.cat s.a s.b)[j] = mp at hq
        have e13 := e12.trans e3
        have hvf3 := Is.mono (hid_mono (M := M) e3) hvf
        have mln : ¬ M ln := (hid_some hL.ln_).1
        refine s_fldS (M := M) (P := .is mp) (ev_ixL (ev_d rfl hvf3) (ev_n rfl) hq) rfl (e13 _ _ hln) T.cCL T.nCL_chosen (by show 4 < 1000; decide) fun vm H4 e4 hvm => ?_
        rw [lineF_ch]
        have e14 := e13.trans e4
        have hL4 := hL.mono (hid_mono (M := M) e14)
        have hLc := hL4.cho (ch := vm) (way := some mp) (.inr ⟨mp, rfl, hvm⟩)
        have hvf5 : Is (upd (hid M H4) ln (.ins CL L.dxl (lineF L.c L.il L.pl vm))) vf (mapsL s.cat s.a s.b) := is_updI hL4.ln_ (Is.mono (hid_mono e4) hvf3)
        rw [← hid_upd_no mln] at hLc hvf5
        have kp : Keep M H (upd H4 ln (.ins CL L.dxl (lineF L.c L.il L.pl vm))) := (Keep.of e14).trans (Keep.upd mln)
        have hM5 := kp.tr hM
        have hml : mp.length ≤ 6 := by
          have h1 := (mapsTo_mem (t := s.b) _ mp (List.mem_of_getElem? hq)).1
          have h2 := places_len ok.cat ok.ia
          omega
        refine s_ret (M := M) (Ev.zs (ev_cat (l := [(mapsL s.cat s.a s.b).length]) (k := mp) (by simp; omega) hM5 (ev_lst1 hM5 (ev_len (ev_d rfl hvf5))) (ev_ixL (ev_d rfl hvf5) (ev_n rfl) hq))) fun u H6 e6 hu => k u H6 { L with ch := vm } (kp.trans (Keep.of e6)) ?_ ?_
        · rw [hst, hq]
          exact (hLc.mono (hid_mono e6)).up
        · rw [hst, hq]
          exact hu
end
end Im

namespace Im
open PySem PySem.Spec PyProof.Rows L2
def sp_call_start (CC CI CL : Addr) : Sp := SpL CC CI CL fun rest G k => ∃ j : Nat, rest = [.int j] ∧ k = .start j
def sp_call_arrow (CC CI CL : Addr) : Sp := SpL CC CI CL fun rest G k => ∃ x y : Nat, rest = [.int x, .int y] ∧ k = .arrow x y
def sp_call_make (CC CI CL : Addr) : Sp := SpL CC CI CL fun rest G k => ∃ f g h : Nat, rest = [.int f, .int g, .int h] ∧ k = .make f g h
theorem nuMax2_int (i j : Int) : nuMax2 (.int i) (.int j) = some (.int (if i < j then j else i)) := by
  unfold nuMax2 nuLt
  by_cases h : i < j
  · simp [nuCB, h]
  · simp [nuCB, h]
theorem ev_max3 {M : Addr → Prop} {σ : L2.St} {H : Hp} {ta tb tc : TE} {f g h : Nat} (ha : Ev M ta σ H (.is f)) (hb : Ev M tb σ H (.is g)) (hc : Ev M tc σ H (.is h)) : Ev M (tCB (rNuC3 nuMax3) (tCons ta (tCons tb (tCons tc tNil)))) σ H (.is (max (max f g) h)) :=
  fun H1 e Q q => ea_cons ha (ea_cons hb (ea_cons hc ea_nil)) H1 e _ fun vs H2 e2 hv => by
    obtain ⟨u, w, z, rfl, q1, q2, q3⟩ := hv.three
    obtain rfl := Is.nat q1
    obtain rfl := Is.nat q2
    obtain rfl := Is.nat q3
    have e3 : nuMax3 (.int f) (.int g) (.int h) = some (.int ((max (max f g) h : Nat) : Int)) := by
      unfold nuMax3
      rw [nuMax2_int]
      show nuMax2 _ _ = _
      rw [nuMax2_int]
      refine congrArg (fun x => some (V.int x)) ?_
      split <;> split <;> omega
    exact ⟨_, _, _, _, rfl, e3, q _ H2 e2 is_nat⟩
section
variable {P : Program} {w : World} {K : PySem.W.Frag} {mg : Str → Option Value} {base : Heap} {CC CI CL WN : Addr}
/-- line.forget_rows(); return [..] -/
theorem s_forget {D : Ends} {σ : L2.St} {M : Addr → Prop} {H0 H : Hp} {ln dxl c dxc b e d : Addr} {il pl : Addr} {ch : V} {m : Fc05.Cat} {kvs : List (List Key × V)} {n : Nat} {te : TE} {ans : List Int} {s : Fc05.St} {k : Fc05.Call} (T : Txt K mg CC CI CL WN) (hσ : σ[0]? = some (some (.ref ln)))
    (kk : ∀ u H' L', Keep M H0 H' → LineAt CC CI CL (hid M H') ln (Fc05.step s k).1 (n + 1) L' → Is (hid M H') u (Fc05.step s k).2 → D.rt u H') (hs : Fc05.step s k = (Fc05.emptied m, ans))
    (kp : Keep M H0 H) (hM : Tr M H) (mln : ¬ M ln) (hln : H ln = some (.ins CL dxl (lineF c il pl ch))) (ok : CatOk m)
    (hc : H c = some (.ins CC dxc (catF m.n b e d))) (hb : H b = some (.lst (nv (m.arrows.map (·.1))))) (he : H e = some (.lst (nv (m.arrows.map (·.2))))) (hd : H d = some (.dT kvs)) (mc : ¬ M c) (mb : ¬ M b) (me : ¬ M e) (md : ¬ M d) (hm : Made kvs m.makes) (hk : kvs.length ≤ n + 1) (hbe : b ≠ e)
    (hans : ∀ H', Tr M H' → Ev M te σ H' (.is ans)) : tSeq (tDrop (tMeth CL "forget_rows" (sp_forget_rows CC CI CL) [] E0 (tVar 0) tNil)) (tRet te) D σ H := by
  have hcl : c ≠ ln := by
    refine ne_of hc hln fun z => ?_
    injection z with _ _ z
    unfold catF lineF at z
    injection z with z _
    injection z with z _
    exact absurd z (by decide)
  refine ⟨.ref ln, hσ, ln, dxl, _, rfl, hln, lineF_none (by decide) (by decide) (by decide) (by decide), ?_⟩
  refine ⟨ln, dxl, c, _, m, rfl, hln, by show 4 ≤ 10; decide, lkCat, fun il pl => lineF_again, ⟨dxc, b, e, d, kvs, hc, is_nv hb, is_nv he, hd, hm⟩, ok, fun H' il' pl' pvs A B F => ?_⟩
  have kp2 : Keep M H0 H' := kp.trans fun a o ma h => F.fr a o h fun z => mln (by rw [← z]; exact ma)
  have hL := fresh_line (n := n + 1) F ok hM mln hc hb he hd mc mb me md hm hk hbe hcl hln (fun _ z => nomatch z) fun _ z => nomatch z
  have hM' : Tr M H' := fun a ma z => by
    cases q : H a with
    | none => exact hM a ma q
    | some o =>
      rw [F.fr a o q fun w => mln (by rw [← w]; exact ma)] at z
      cases z
  refine s_ret (M := M) (hans H' hM') fun u H1 e1 hu => kk u H1 _ (kp2.trans (Keep.of e1)) (by rw [hs]; exact hL.mono (hid_mono e1)) (by rw [hs]; exact hu)
theorem ok_call_start {f : Addr} {fd : FuncData} (F : Fun K "call_start" "call_start" s_call_start f fd) (T : Txt K mg CC CI CL WN) (g_forget_rows : MetOk P w K mg base CL 4 "forget_rows" ["self"] (sp_forget_rows CC CI CL)) (g_initCategory : NewOk P w K mg base CC 1 ["self", "things"] (sp_initCategory CC CI CL)) : FnOk P w K mg base CX0 5 f fd ["line", "n"] (sp_call_start CC CI CL) := by
  refine F.ok sc_call_start (fun vs H Q E h => ?_) (fun cdv A outer s H vs Q E hr h => ⟨_, (pss_cons (ps_if (PW.pt (pw_or (pt_cmpR op_lt (pv 1) pe_int (nomark _)) (pw_or1 (pt_cmpR op_gt (pv 1) (pe_gI T.c_MOST_THINGS rfl) (nomark _))))) (pss_one (ps_ret (pe_lst (pa_cons (pe_gI T.c_UNFIT rfl) pa_nil)))) pss_nil)
    (pss_cons (ps_fld (pv 0) (pe_makeD g_initCategory (hr.mono (by decide)) rfl T.gCC (pa_cons (pv 1) pa_nil)) rfl)
    (pss_cons (ps_expr (pe_methD0 (pv 0) T.cCL g_forget_rows (hr.mono (by decide))))
    (pss_one (ps_ret (pe_lst (pa_cons (pv 1) pa_nil))))))), ?_⟩)
  · obtain ⟨_, _, _, _, _, _, _, rfl, _, ⟨_, rfl, _⟩, _⟩ := h
    rfl
  · obtain ⟨M, ln, s, n, L, rest, kk, rfl, hM, ⟨j, rfl, rfl⟩, hL, ok, hn, k⟩ := h
    refine s_ifN (et_or (et_test (M := M) (ev_lt (ev_n rfl) (ev_cn (n := 1)))) fun _ => et_test (M := M) (ev_gt (ev_n rfl) (ev_cn (n := 3)))) (fun hb H1 e1 => ?_) fun hb H1 e1 => ?_
    · have hb' : j < 1 ∨ 3 < j := by simpa using hb
      refine s_rq k hL e1 ?_ (ev_ref1 (hM.mono e1) (ev_cz (z := -1)))
      show (if _ then _ else _) = _
      rw [if_pos (by omega)]
    · have hb' : ¬ j < 1 ∧ ¬ 3 < j := by simpa using hb
      have hst : Fc05.step s (.start j) = (Fc05.emptied (Fc05.begin_ j), [(j : Int)]) := by
        show (if _ then _ else _) = _
        rw [if_neg (by omega)]
      have hM1 := hM.mono e1
      have hln1 : H1 ln = some (.ins CL L.dxl (lineF L.c L.il L.pl L.ch)) := e1 _ _ (hid_sub _ _ hL.ln_)
      have mln : ¬ M ln := (hid_some hL.ln_).1
      refine ⟨.int j, rfl, ?_⟩
      intro c dxc nc ndc nec
      have fH : ∀ a o, H1 a = some o → (upd (upd H1 dxc (.own c)) c (.ins CC dxc [])) a = some o := fun a o h => by
        rw [upd_ne (ne_of_none h nc), upd_ne (ne_of_none h ndc)]
        exact h
      have bk : ∀ a, (upd (upd H1 dxc (.own c)) c (.ins CC dxc [])) a = none → H1 a = none := fun a h => by
        cases q : H1 a with
        | none => rfl
        | some o => rw [fH a o q] at h; cases h
      refine ⟨c, dxc, j, rfl, upd_same, by omega, fun H2 b e d fr hc hb0 he0 hd0 hbe hb he hd => ⟨rfl, ?_⟩⟩
      have ncl : c ≠ ln := fun z => by rw [z, hln1] at nc; cases nc
      have hln2 := fr ln _ (fH ln _ hln1) (Ne.symm ncl)
      refine ⟨.ref ln, rfl, ln, CL, L.dxl, _, rfl, hln2, T.cCL, T.nCL_category, by show 4 < 1000; decide, ?_⟩
      rw [lineF_cat]
      have g1 : ∀ a o, H2 a = some o → a ≠ ln → upd H2 ln (.ins CL L.dxl (lineF c L.il L.pl L.ch)) a = some o := fun a o h hx => by rw [upd_ne hx]; exact h
      obtain ⟨m1, m2⟩ := begin_maps j
      have kp : Keep M H (upd H2 ln (.ins CL L.dxl (lineF c L.il L.pl L.ch))) := fun a o ma h => by
        refine g1 a o (fr a o (fH a o (e1 _ _ h)) fun z => ?_) fun z => mln (by rw [← z]; exact ma)
        rw [z] at h
        rw [e1 _ _ h] at nc
        cases nc
      refine s_forget T rfl k hst kp (kp.tr hM) mln upd_same (catOk_begin (by omega) (by omega)) (g1 c _ hc ncl) (g1 b _ (by rw [m1]; exact hb) (ne_of hb hln2 fun z => nomatch z)) (g1 e _ (by rw [m2]; exact he) (ne_of he hln2 fun z => nomatch z)) (g1 d _ hd (ne_of hd hln2 fun z => nomatch z)) (hM1.new nc) (hM1.new (bk b hb0)) (hM1.new (bk e he0)) (hM1.new (bk d hd0)) (fun f g => rfl) (Nat.zero_le _) hbe fun H' hM' => ev_lst1 hM' (Ev.z (ev_n rfl))
theorem ok_call_arrow {f : Addr} {fd : FuncData} (F : Fun K "call_arrow" "call_arrow" s_call_arrow f fd) (T : Txt K mg CC CI CL WN) (g_forget_rows : MetOk P w K mg base CL 4 "forget_rows" ["self"] (sp_forget_rows CC CI CL)) (g_add_arrow : MetOk P w K mg base CC 1 "add_arrow" ["self", "x", "y"] (sp_add_arrow CC CI CL)) (g_arrow_count : MetOk P w K mg base CC 1 "arrow_count" ["self"] (sp_arrow_count CC CI CL)) : FnOk P w K mg base CX0 5 f fd ["line", "x", "y"] (sp_call_arrow CC CI CL) := by
  refine F.ok sc_call_arrow (fun vs H Q E h => ?_) (fun cdv A outer s H vs Q E hr h => ⟨_, (pss_cons (ps_set (i := 3) sc_call_arrow.nd rfl (Or.inl rfl) (pe_fld (pv 0) rfl))
    (pss_cons (ps_if (PW.pt (pw_or (pt_cmpR op_ge (pv 1) (pe_fld (pv 3) rfl) (nomark _)) (pw_or1 (pt_cmpR op_ge (pv 2) (pe_fld (pv 3) rfl) (nomark _))))) (pss_one (ps_ret (pe_lst (pa_cons (pe_gI T.c_UNFIT rfl) pa_nil)))) pss_nil)
    (pss_cons (ps_if (pt_cmpR op_ge (pe_methD0 (pv 3) T.cCC g_arrow_count (hr.mono (by decide))) (pe_gI T.c_MOST_ARROWS rfl) (nomark _)) (pss_one (ps_ret (pe_lst (pa_cons (pe_gI T.c_FULL rfl) pa_nil)))) pss_nil)
    (pss_cons (ps_set (i := 4) sc_call_arrow.nd rfl (Or.inl rfl) (pe_methD (pv 3) T.cCC g_add_arrow (hr.mono (by decide)) (pa_cons (pv 1) (pa_cons (pv 2) pa_nil))))
    (pss_cons (ps_expr (pe_methD0 (pv 0) T.cCL g_forget_rows (hr.mono (by decide))))
    (pss_one (ps_ret (pe_lst (pa_cons (pv 4) pa_nil))))))))), ?_⟩)
  · obtain ⟨_, _, _, _, _, _, _, rfl, _, ⟨_, _, rfl, _⟩, _⟩ := h
    rfl
  · obtain ⟨M, ln, s, n, L, rest, kk, rfl, hM, ⟨x, y, rfl, rfl⟩, hL, ok, hn, k⟩ := h
    refine s_asgS (M := M) (ev_Lcat T (ev_o rfl) hL) fun v0 H0 e0 hv0 => ?_
    obtain rfl : v0 = .ref L.c := hv0
    have hL0 := hL.mono (hid_mono (M := M) e0)
    refine s_ifN (et_or (et_test (M := M) (ev_ge (ev_n rfl) (ev_things T (ev_o rfl) hL0.cat))) fun _ => et_test (M := M) (ev_ge (ev_n rfl) (ev_things T (ev_o rfl) hL0.cat))) (fun hb H1 e1 => ?_) fun hb H1 e1 => ?_
    · have hb' : s.cat.n ≤ x ∨ s.cat.n ≤ y := by simpa using hb
      refine s_rq k hL (e0.trans e1) ?_ (ev_ref1 (hM.mono (e0.trans e1)) (ev_cz (z := -1)))
      show (if _ then _ else _) = _
      rw [if_pos hb']
    · have hb' : ¬ (s.cat.n ≤ x ∨ s.cat.n ≤ y) := by simpa using hb
      have e01 := e0.trans e1
      have hM1 := hM.mono e01
      have hL1 := hL.mono (hid_mono (M := M) e01)
      refine s_ifN (et_test (M := M) (ev_ge (ev_arrow_count hM1 (ev_o rfl) hL1.cat) (ev_cn (n := 8)))) (fun hb2 H2 e2 => ?_) fun hb2 H2 e2 => ?_
      · refine s_rq k hL (e01.trans e2) ?_ (ev_ref1 (hM1.mono e2) (ev_cz (z := -5)))
        show (if _ then _ else _) = _
        rw [if_neg hb', if_pos (of_decide_eq_true hb2)]
      · have hb3 : ¬ 8 ≤ s.cat.arrows.length := of_decide_eq_false hb2
        have e02 := e01.trans e2
        have hL2 := hL.mono (hid_mono (M := M) e02)
        have vis := fun {a : Addr} {o : HO} (h : hid M H2 a = some o) => hid_some h
        have hbe : L.b ≠ L.e := ne_at hL.nd (i := 0) (j := 1) rfl rfl (by decide)
        have hst : Fc05.step s (.arrow x y) = (Fc05.emptied ⟨s.cat.n, s.cat.arrows ++ [(x, y)], s.cat.makes⟩, [(s.cat.arrows.length : Int)]) := by
          show (if _ then _ else _) = _
          rw [if_neg hb', if_neg hb3]
        refine ⟨.ref L.c, rfl, L.c, L.dxc, _, rfl, (vis hL2.cat_).2, catF_none (by decide) (by decide) (by decide) (by decide), .int x, rfl, .int y, rfl, ?_⟩
        refine ⟨L.c, L.dxc, L.b, L.e, L.d, s.cat.n, x, y, _, _, rfl, (vis hL2.cat_).2, (vis hL2.b_).2, (vis hL2.e_).2, hbe, by rw [List.length_map, List.length_map]; omega, by rw [List.length_map, List.length_map]; omega, ?_⟩
        have b2 : nv (s.cat.arrows.map (·.1)) ++ [V.int (x : Int)] = nv ((s.cat.arrows ++ [(x, y)]).map (·.1)) := by rw [List.map_append, nv, nv, List.map_append]; rfl
        have e2' : nv (s.cat.arrows.map (·.2)) ++ [V.int (y : Int)] = nv ((s.cat.arrows ++ [(x, y)]).map (·.2)) := by rw [List.map_append, nv, nv, List.map_append]; rfl
        rw [b2, e2']
        have hlen : (nv (s.cat.arrows.map (·.1))).length = s.cat.arrows.length := by rw [List.length_map, List.length_map]
        rw [hlen]
        have mln : ¬ M ln := (vis hL2.ln_).1
        have g2 : ∀ {a : Addr} {o : HO}, H2 a = some o → (∀ xs, o ≠ .lst xs) → upd (upd H2 L.b (.lst (nv ((s.cat.arrows ++ [(x, y)]).map (·.1))))) L.e (.lst (nv ((s.cat.arrows ++ [(x, y)]).map (·.2)))) a = some o := fun {a o} h ho => by
          rw [upd_ne (ne_of h (vis hL2.e_).2 (ho _)), upd_ne (ne_of h (vis hL2.b_).2 (ho _))]
          exact h
        have kp : Keep M H (upd (upd H2 L.b (.lst (nv ((s.cat.arrows ++ [(x, y)]).map (·.1))))) L.e (.lst (nv ((s.cat.arrows ++ [(x, y)]).map (·.2))))) := ((Keep.of e02).trans (Keep.upd (vis hL2.b_).1)).trans (Keep.upd (vis hL2.e_).1)
        have okm : CatOk ⟨s.cat.n, s.cat.arrows ++ [(x, y)], s.cat.makes⟩ := by
          have o := ok.cat
          refine ⟨o.pos, o.three, ?_, ?_, fun f hf => ?_, fun a ha => ?_, fun z hz => ?_⟩
          · show (s.cat.arrows ++ [(x, y)]).length ≤ 8
            rw [List.length_append, List.length_singleton]
            omega
          · show s.cat.n ≤ (s.cat.arrows ++ [(x, y)]).length
            rw [List.length_append]
            have := o.nle
            omega
          · show (s.cat.arrows ++ [(x, y)])[f]? = some (f, f)
            have hf' : f < s.cat.n := hf
            have := o.nle
            rw [List.getElem?_append_left (by omega)]
            exact o.own f hf
          · rcases List.mem_append.mp ha with h | h
            · exact o.lt a h
            · obtain rfl := List.mem_singleton.mp h
              exact ⟨by show x < s.cat.n; omega, by show y < s.cat.n; omega⟩
          · show z.2 < (s.cat.arrows ++ [(x, y)]).length
            rw [List.length_append]
            have := o.mks z hz
            omega
        refine s_forget T rfl k hst kp (kp.tr hM) mln (g2 (vis hL2.ln_).2 fun _ z => nomatch z) okm (g2 (vis hL2.cat_).2 fun _ z => nomatch z) ?_ upd_same (g2 (vis hL2.d_).2 fun _ z => nomatch z) (vis hL2.cat_).1 (vis hL2.b_).1 (vis hL2.e_).1 (vis hL2.d_).1 hL.made (Nat.le_succ_of_le hL.kl) hbe fun H' hM' => ev_lst1 hM' (Ev.z (ev_n rfl))
        rw [upd_ne hbe]
        exact upd_same
theorem ok_call_make {f : Addr} {fd : FuncData} (F : Fun K "call_make" "call_make" s_call_make f fd) (T : Txt K mg CC CI CL WN) (g_forget_rows : MetOk P w K mg base CL 4 "forget_rows" ["self"] (sp_forget_rows CC CI CL)) (g_tell_made : MetOk P w K mg base CC 1 "tell_made" ["self", "f", "g", "h"] (sp_tell_made CC CI CL)) (g_do_meet : MetOk P w K mg base CC 1 "do_meet" ["self", "f", "g"] (sp_do_meet CC CI CL)) (g_is_own : MetOk P w K mg base CC 1 "is_own" ["self", "f"] (sp_is_own CC CI CL)) (g_arrow_count : MetOk P w K mg base CC 1 "arrow_count" ["self"] (sp_arrow_count CC CI CL)) : FnOk P w K mg base CX0 5 f fd ["line", "f", "g", "h"] (sp_call_make CC CI CL) := by
  refine F.ok sc_call_make (fun vs H Q E h => ?_) (fun cdv A outer s H vs Q E hr h => ⟨_, (pss_cons (ps_set (i := 4) sc_call_make.nd rfl (Or.inl rfl) (pe_fld (pv 0) rfl))
    (pss_cons (ps_if (pt_cmpR op_ge (pe_callB (call_max3Nu rfl) (by rfl) T.f_max (by decide +kernel) (pa_cons (pv 1) (pa_cons (pv 2) (pa_cons (pv 3) pa_nil)))) (pe_methD0 (pv 4) T.cCC g_arrow_count (hr.mono (by decide))) (nomark _)) (pss_one (ps_ret (pe_lst (pa_cons (pe_gI T.c_NO_SUCH_ARROW rfl) pa_nil)))) pss_nil)
    (pss_cons (ps_if (PW.pt (pw_or (pt_val (pe_methD (pv 4) T.cCC g_is_own (hr.mono (by decide)) (pa_cons (pv 1) pa_nil))) (pw_or (pt_val (pe_methD (pv 4) T.cCC g_is_own (hr.mono (by decide)) (pa_cons (pv 2) pa_nil))) (pw_or1 (pt_not (pt_val (pe_methD (pv 4) T.cCC g_do_meet (hr.mono (by decide)) (pa_cons (pv 1) (pa_cons (pv 2) pa_nil))))))))) (pss_one (ps_ret (pe_lst (pa_cons (pe_gI T.c_UNFIT rfl) pa_nil)))) pss_nil)
    (pss_cons (ps_expr (pe_methD (pv 4) T.cCC g_tell_made (hr.mono (by decide)) (pa_cons (pv 1) (pa_cons (pv 2) (pa_cons (pv 3) pa_nil)))))
    (pss_cons (ps_expr (pe_methD0 (pv 0) T.cCL g_forget_rows (hr.mono (by decide))))
    (pss_one (ps_ret (pe_lst (pa_cons (pv 3) pa_nil))))))))), ?_⟩)
  · obtain ⟨_, _, _, _, _, _, _, rfl, _, ⟨_, _, _, rfl, _⟩, _⟩ := h
    rfl
  · obtain ⟨M, ln, s, n, L, rest, kk, rfl, hM, ⟨f, g, h, rfl, rfl⟩, hL, ok, hn, k⟩ := h
    refine s_asgS (M := M) (ev_Lcat T (ev_o rfl) hL) fun v0 H0 e0 hv0 => ?_
    obtain rfl : v0 = .ref L.c := hv0
    have hM0 := hM.mono e0
    have hL0 := hL.mono (hid_mono (M := M) e0)
    refine s_ifN (et_test (M := M) (ev_ge (ev_max3 (ev_n rfl) (ev_n rfl) (ev_n rfl)) (ev_arrow_count hM0 (ev_o rfl) hL0.cat))) (fun hb H1 e1 => ?_) fun hb H1 e1 => ?_
    · have hb' : s.cat.arrows.length ≤ max (max f g) h := of_decide_eq_true hb
      refine s_rq k hL (e0.trans e1) ?_ (ev_ref1 (hM.mono (e0.trans e1)) (ev_cz (z := -3)))
      show (if _ then _ else _) = _
      rw [if_pos (by omega)]
    · have hb' : ¬ s.cat.arrows.length ≤ max (max f g) h := of_decide_eq_false hb
      have hf : f < s.cat.arrows.length := by omega
      have hg : g < s.cat.arrows.length := by omega
      have hh : h < s.cat.arrows.length := by omega
      have e01 := e0.trans e1
      have hM1 := hM.mono e01
      have hL1 := hL.mono (hid_mono (M := M) e01)
      refine s_ifN (et_or (et_B (M := M) (ev_is_own hM1 (ev_o rfl) hL1.cat (ev_n rfl))) fun _ => et_or (et_B (M := M) (ev_is_own hM1 (ev_o rfl) hL1.cat (ev_n rfl))) fun _ => et_not (et_B (M := M) (ev_do_meet hM1 (ev_o rfl) hL1.cat hf hg (ev_n rfl) (ev_n rfl)))) (fun hb2 H2 e2 => ?_) fun hb2 H2 e2 => ?_
      · have hb3 : f < s.cat.n ∨ g < s.cat.n ∨ Fc05.to_ s.cat f ≠ Fc05.from_ s.cat g := by simpa using hb2
        refine s_rq k hL (e01.trans e2) ?_ (ev_ref1 (hM1.mono e2) (ev_cz (z := -1)))
        show (if _ then _ else _) = _
        rw [if_neg (by omega), if_pos hb3]
      · have hb3 : ¬ (f < s.cat.n ∨ g < s.cat.n ∨ Fc05.to_ s.cat f ≠ Fc05.from_ s.cat g) := by simpa using hb2
        have e02 := e01.trans e2
        have hL2 := hL.mono (hid_mono (M := M) e02)
        have vis := fun {a : Addr} {o : HO} (h : hid M H2 a = some o) => hid_some h
        have hbe : L.b ≠ L.e := ne_at hL.nd (i := 0) (j := 1) rfl rfl (by decide)
        have hst : Fc05.step s (.make f g h) = (Fc05.emptied ⟨s.cat.n, s.cat.arrows, ((f, g), h) :: s.cat.makes.filter fun x => x.1 != (f, g)⟩, [(h : Int)]) := by
          show (if _ then _ else _) = _
          rw [if_neg (by omega), if_neg hb3]
        refine ⟨.ref L.c, rfl, L.c, L.dxc, _, rfl, (vis hL2.cat_).2, catF_none (by decide) (by decide) (by decide) (by decide), .int f, rfl, .int g, rfl, .int h, rfl, ?_⟩
        refine ⟨L.c, L.dxc, L.b, L.e, L.d, s.cat.n, f, g, h, L.kvs, rfl, (vis hL2.cat_).2, (vis hL2.d_).2, by have := hL.kl; omega, fun H3 fr hd3 => ?_⟩
        have mln : ¬ M ln := (vis hL2.ln_).1
        have md : ¬ M L.d := (vis hL2.d_).1
        have kp : Keep M H H3 := (Keep.of e02).trans fun a o ma h => fr a o h fun z => md (by rw [← z]; exact ma)
        have okm : CatOk ⟨s.cat.n, s.cat.arrows, ((f, g), h) :: s.cat.makes.filter fun x => x.1 != (f, g)⟩ := by
          have o := ok.cat
          refine ⟨o.pos, o.three, o.eight, o.nle, o.own, o.lt, fun z hz => ?_⟩
          rcases List.mem_cons.mp hz with rfl | hz
          · exact hh
          · exact o.mks z (List.mem_filter.mp hz).1
        have hmade : Made (putK L.kvs [Sum.inl (f : Int), Sum.inl (g : Int)] (.int h)) (((f, g), h) :: s.cat.makes.filter fun x => x.1 != (f, g)) := by
          intro f' g'
          rw [valV_put]
          unfold madeOf
          by_cases q : f' = f ∧ g' = g
          · obtain ⟨rfl, rfl⟩ := q
            rw [if_pos rfl, List.find?_cons]
            simp
          · have q1 : ¬ ([Sum.inl (f' : Int), Sum.inl (g' : Int)] : List Key) = [Sum.inl (f : Int), Sum.inl (g : Int)] := fun z => by
              injection z with z1 z2
              injection z2 with z2 _
              injection z1 with z1
              injection z2 with z2
              exact q ⟨by omega, by omega⟩
            have q2 : ((f, g) == (f', g')) = false := by
              rw [beq_eq_false_iff_ne]
              intro z
              injection z with z1 z2
              exact q ⟨z1.symm, z2.symm⟩
            rw [if_neg q1, hL.made f' g', List.find?_cons]
            simp only [q2]
            unfold madeOf
            congr 2
            rw [List.find?_filter]
            congr 1
            funext x
            by_cases q3 : x.1 == (f', g')
            · have : x.1 = (f', g') := by simpa using q3
              rw [this]
              have q4 : ((f', g') != (f, g)) = true := by
                rw [bne_iff_ne]
                intro z
                injection z with z1 z2
                exact q ⟨z1, z2⟩
              simp [q4]
            · simp [q3]
        refine s_forget T rfl k hst kp (kp.tr hM) mln (fr _ _ (vis hL2.ln_).2 (ne_of (vis hL2.ln_).2 (vis hL2.d_).2 fun z => nomatch z)) okm (fr _ _ (vis hL2.cat_).2 (ne_of (vis hL2.cat_).2 (vis hL2.d_).2 fun z => nomatch z)) (fr _ _ (vis hL2.b_).2 (ne_of (vis hL2.b_).2 (vis hL2.d_).2 fun z => nomatch z)) (fr _ _ (vis hL2.e_).2 (ne_of (vis hL2.e_).2 (vis hL2.d_).2 fun z => nomatch z)) hd3 (vis hL2.cat_).1 (vis hL2.b_).1 (vis hL2.e_).1 (vis hL2.d_).1 hmade ?_ hbe fun H' hM' => ev_lst1 hM' (Ev.z (ev_n rfl))
        have h1 := length_putK L.kvs [Sum.inl (f : Int), Sum.inl (g : Int)] (.int h)
        have h2 := hL.kl
        omega
end
end Im

namespace Im
open PySem PySem.Spec PyProof.Rows L2
def sp_call_rows (CC CI CL : Addr) : Sp := SpL CC CI CL fun rest G k => ∃ i x j : Nat, rest = [.int i, .int x, .int j] ∧ k = .rows i x j
def sp_call_set (CC CI CL : Addr) : Sp := SpL CC CI CL fun rest G k => ∃ i f r v : Nat, rest = [.int i, .int f, .int r, .int v] ∧ k = .set i f r v
/-- a part is kept where only lists that hold no rows change -/
theorem isP_fr {G G3 : Hp} {X : Addr → Prop} (fr : ∀ a o, G a = some o → ¬ X a → G3 a = some o) (hX : ∀ a, X a → (∃ xs, G a = some (.lst xs) ∧ NotP G xs) ∨ ∃ C dx fs, G a = some (.ins C dx fs)) {v : V} {p : List (Nat × Nat)} (h : Is G v p) : Is G3 v p := by
  obtain ⟨a, vs, rfl, h1, h2⟩ := Is.list h
  have nt : ∀ b ts, G b = some (.tup ts) → ¬ X b := fun b ts q z => by
    rcases hX b z with ⟨xs, q1, _⟩ | ⟨C, dx, fs, q1⟩
    · rw [q] at q1
      cases q1
    · rw [q] at q1
      cases q1
  have na : ¬ X a := fun z => by
    rcases hX a z with ⟨xs, q1, y, ys, rfl, hy⟩ | ⟨C, dx, fs, q1⟩
    · rw [h1] at q1
      injection q1 with q1
      injection q1 with q1
      subst q1
      cases p with
      | nil => have := h2.length; cases this
      | cons r p =>
        cases h2 with
        | cons q2 q3 =>
          obtain ⟨b, _, _, rfl, q4, _⟩ := Is.pair (x := r.1) (y := r.2) q2
          exact hy b _ rfl q4
    · rw [h1] at q1
      cases q1
  refine is_list (fr a _ h1 na) ?_
  clear h h1 na
  induction p generalizing vs with
  | nil => cases h2; exact isL_nil
  | cons r p ih =>
    cases h2 with
    | cons q2 q3 =>
      refine isL_cons ?_ (ih _ q3)
      obtain ⟨b, u, w, rfl, q4, q5, q6⟩ := Is.pair (x := r.1) (y := r.2) q2
      obtain rfl := Is.nat q5
      obtain rfl := Is.nat q6
      exact is_pair (x := r.1) (y := r.2) (fr b _ q4 (nt b _ q4)) is_nat is_nat
theorem line_told0 {CC CI CL ln : Addr} {G G3 : Hp} {s : Fc05.St} {n : Nat} {L : Lay} {X : Addr → Prop} {t' : Fc05.Inst} {las' : List Addr} {pvs' : List V} (h : LineAt CC CI CL G ln s n L) (ok : StOk s)
    (fr : ∀ a o, G a = some o → ¬ X a → G3 a = some o) (hX : ∀ a, X a → (∃ xs, G a = some (.lst xs) ∧ NotP G xs) ∨ ∃ C dx fs, G a = some (.ins C dx fs))
    (nX : ∀ a, a ∈ [L.c, L.b, L.e, L.d, L.il, L.B.i, L.B.s, L.B.l] ++ L.B.las → ¬ X a)
    (hln : G3 ln = some (.ins CL L.dxl (lineF L.c L.il L.pl .non))) (hpl : G3 L.pl = some (.lst pvs')) (h8 : pvs'.length = 8) (hpv : ∀ (p : Nat) (v : V), pvs'[p]? = some v → (p / 4 = 0 ∧ ∃ q, v = .ref q ∧ G3 q = some (.lst [])) ∨ (p / 4 ≠ 0 ∧ L.pvs[p]? = some v))
    (hin : InsOk CI G3 L.c s.cat t' { L.A with las := las' }) (hold : ∀ (f : Nat) (la : Addr), las'[f]? = some la → L.A.las[f]? = some la ∨ G la = none) (hinj : ∀ (f f' : Nat) (la : Addr), las'[f]? = some la → las'[f']? = some la → f = f' ∨ G3 la = some (.lst [])) :
    LineAt CC CI CL G3 ln (Fc05.withInst s 0 t') (n + 1) { L with ch := .non, pvs := pvs', A := { L.A with las := las' } } := by
  have k := fun {a : Addr} {o : HO} (q : G a = some o) (m : a ∈ [L.c, L.b, L.e, L.d, L.il, L.B.i, L.B.s, L.B.l] ++ L.B.las) => fr a o q (nX a m)
  have trk : ∀ la, G la = none → la ∉ L.cells := fun la q z => by
    unfold Lay.cells at z
    simp only [List.mem_cons, List.not_mem_nil, or_false] at z
    rcases z with z | z | z | z | z | z | z | z
    · rw [z, h.b_] at q; cases q
    · rw [z, h.e_] at q; cases q
    · rw [z, h.il_] at q; cases q
    · rw [z, h.pl_] at q; cases q
    · rw [z, h.A_.2.1] at q; cases q
    · rw [z, h.A_.2.2.1] at q; cases q
    · rw [z, h.B_.2.1] at q; cases q
    · rw [z, h.B_.2.2.1] at q; cases q
  have insY : InsOk CI G3 L.c s.cat s.b L.B := h.B_.fr fun a ha o q => k q (by
    simp only [List.mem_cons] at ha
    simp only [List.mem_append, List.mem_cons]
    rcases ha with z | z | z | z
    · simp [z]
    · simp [z]
    · simp [z]
    · exact .inr z)
  have parts : IsL G3 pvs' (Fc05.withInst s 0 t').parts := by
    refine isL_of ?_ fun p v q hv hq => ?_
    · show pvs'.length = (s.parts.zipIdx.map fun x => if Fc05.home x.2 = 0 then [] else x.1).length
      rw [h8, List.length_map, List.length_zipIdx, ok.np]
    · have hp8 : p < 8 := by have := (List.getElem?_eq_some_iff.mp hv).1; omega
      have hq' : (s.parts.zipIdx.map fun x => if Fc05.home x.2 = 0 then [] else x.1)[p]? = some q := hq
      rw [List.getElem?_map, List.getElem?_zipIdx, parts_at ok hp8] at hq'
      have hq2 : (if Fc05.home p = 0 then ([] : List (Nat × Nat)) else Fc05.partAt s p) = q := by simpa using hq'
      rw [home_div hp8] at hq2
      rcases hpv p v hv with ⟨h1, a, rfl, h2⟩ | ⟨h1, h2⟩
      · rw [if_pos h1] at hq2
        subst hq2
        exact is_list h2 isL_nil
      · rw [if_neg h1] at hq2
        subst hq2
        obtain ⟨y, hy, hv2⟩ := h.ps.get h2
        rw [parts_at ok hp8] at hy
        obtain rfl := Option.some.inj hy
        exact isP_fr fr hX hv2
  have oldmem : ∀ (f : Nat) (la : Addr), L.A.las[f]? = some la → la ∈ L.A.las ++ L.B.las := fun f la q => List.mem_append_left _ (List.mem_of_getElem? q)
  have trY : ∀ la, la ∈ L.B.las → ∃ xs, G la = some (.lst xs) := fun la q => by
    obtain ⟨f, hf⟩ := List.getElem?_of_mem q
    exact ⟨_, h.B_.2.2.2.2 f la hf⟩
  have cross : ∀ (f f' : Nat) (la : Addr), las'[f]? = some la → L.B.las[f']? = some la → G3 la = some (.lst []) := fun f f' la q q' => by
    have hm := List.mem_of_getElem? q'
    rcases hold f la q with q1 | q1
    · have := h.inj f (L.A.las.length + f') la (by rw [List.getElem?_append_left (List.getElem?_eq_some_iff.mp q1).1]; exact q1) (by rw [List.getElem?_append_right (by omega), Nat.add_sub_cancel_left]; exact q')
      rcases this with z | z
      · have := (List.getElem?_eq_some_iff.mp q1).1
        have := (List.getElem?_eq_some_iff.mp q').1
        omega
      · exact k z (List.mem_append_right _ hm)
    · obtain ⟨xs, q2⟩ := trY la hm
      rw [q1] at q2
      cases q2
  refine ⟨hln, k h.cat_ (by simp), k h.b_ (by simp), k h.e_ (by simp), k h.d_ (by simp), h.made, Nat.le_succ_of_le h.kl, k h.il_ (by simp), hin, insY, hpl, parts, .inl ⟨rfl, rfl⟩, h.nd, fun la hla => ?_, fun x x' la h1 h2 => ?_⟩
  · have hla' : la ∈ las' ++ L.B.las := hla
    rcases List.mem_append.mp hla' with q | q
    · obtain ⟨f, hf⟩ := List.getElem?_of_mem q
      rcases hold f la hf with q1 | q1
      · exact h.sep la (oldmem f la q1)
      · exact trk la q1
    · exact h.sep la (List.mem_append_right _ q)
  · have h1' : (las' ++ L.B.las)[x]? = some la := h1
    have h2' : (las' ++ L.B.las)[x']? = some la := h2
    show x = x' ∨ G3 la = some (.lst [])
    rw [List.getElem?_append] at h1' h2'
    have yy : ∀ (f f' : Nat), L.B.las[f]? = some la → L.B.las[f']? = some la → f = f' ∨ G3 la = some (.lst []) := fun f f' q q' => by
      rcases h.inj (L.A.las.length + f) (L.A.las.length + f') la (by rw [List.getElem?_append_right (by omega), Nat.add_sub_cancel_left]; exact q) (by rw [List.getElem?_append_right (by omega), Nat.add_sub_cancel_left]; exact q') with z | z
      · exact .inl (by omega)
      · exact .inr (k z (List.mem_append_right _ (List.mem_of_getElem? q)))
    split at h1' <;> split at h2'
    · exact hinj x x' la h1' h2'
    · exact .inr (cross _ _ la h1' h2')
    · exact .inr (cross _ _ la h2' h1')
    · rcases yy _ _ h1' h2' with z | z
      · exact .inl (by omega)
      · exact .inr z
theorem line_told1 {CC CI CL ln : Addr} {G G3 : Hp} {s : Fc05.St} {n : Nat} {L : Lay} {X : Addr → Prop} {t' : Fc05.Inst} {las' : List Addr} {pvs' : List V} (h : LineAt CC CI CL G ln s n L) (ok : StOk s)
    (fr : ∀ a o, G a = some o → ¬ X a → G3 a = some o) (hX : ∀ a, X a → (∃ xs, G a = some (.lst xs) ∧ NotP G xs) ∨ ∃ C dx fs, G a = some (.ins C dx fs))
    (nX : ∀ a, a ∈ [L.c, L.b, L.e, L.d, L.il, L.A.i, L.A.s, L.A.l] ++ L.A.las → ¬ X a)
    (hln : G3 ln = some (.ins CL L.dxl (lineF L.c L.il L.pl .non))) (hpl : G3 L.pl = some (.lst pvs')) (h8 : pvs'.length = 8) (hpv : ∀ (p : Nat) (v : V), pvs'[p]? = some v → (p / 4 = 1 ∧ ∃ q, v = .ref q ∧ G3 q = some (.lst [])) ∨ (p / 4 ≠ 1 ∧ L.pvs[p]? = some v))
    (hin : InsOk CI G3 L.c s.cat t' { L.B with las := las' }) (hold : ∀ (f : Nat) (la : Addr), las'[f]? = some la → L.B.las[f]? = some la ∨ G la = none) (hinj : ∀ (f f' : Nat) (la : Addr), las'[f]? = some la → las'[f']? = some la → f = f' ∨ G3 la = some (.lst [])) :
    LineAt CC CI CL G3 ln (Fc05.withInst s 1 t') (n + 1) { L with ch := .non, pvs := pvs', B := { L.B with las := las' } } := by
  have k := fun {a : Addr} {o : HO} (q : G a = some o) (m : a ∈ [L.c, L.b, L.e, L.d, L.il, L.A.i, L.A.s, L.A.l] ++ L.A.las) => fr a o q (nX a m)
  have trk : ∀ la, G la = none → la ∉ L.cells := fun la q z => by
    unfold Lay.cells at z
    simp only [List.mem_cons, List.not_mem_nil, or_false] at z
    rcases z with z | z | z | z | z | z | z | z
    · rw [z, h.b_] at q; cases q
    · rw [z, h.e_] at q; cases q
    · rw [z, h.il_] at q; cases q
    · rw [z, h.pl_] at q; cases q
    · rw [z, h.A_.2.1] at q; cases q
    · rw [z, h.A_.2.2.1] at q; cases q
    · rw [z, h.B_.2.1] at q; cases q
    · rw [z, h.B_.2.2.1] at q; cases q
  have insY : InsOk CI G3 L.c s.cat s.a L.A := h.A_.fr fun a ha o q => k q (by
    simp only [List.mem_cons] at ha
    simp only [List.mem_append, List.mem_cons]
    rcases ha with z | z | z | z
    · simp [z]
    · simp [z]
    · simp [z]
    · exact .inr z)
  have parts : IsL G3 pvs' (Fc05.withInst s 1 t').parts := by
    refine isL_of ?_ fun p v q hv hq => ?_
    · show pvs'.length = (s.parts.zipIdx.map fun x => if Fc05.home x.2 = 1 then [] else x.1).length
      rw [h8, List.length_map, List.length_zipIdx, ok.np]
    · have hp8 : p < 8 := by have := (List.getElem?_eq_some_iff.mp hv).1; omega
      have hq' : (s.parts.zipIdx.map fun x => if Fc05.home x.2 = 1 then [] else x.1)[p]? = some q := hq
      rw [List.getElem?_map, List.getElem?_zipIdx, parts_at ok hp8] at hq'
      have hq2 : (if Fc05.home p = 1 then ([] : List (Nat × Nat)) else Fc05.partAt s p) = q := by simpa using hq'
      rw [home_div hp8] at hq2
      rcases hpv p v hv with ⟨h1, a, rfl, h2⟩ | ⟨h1, h2⟩
      · rw [if_pos h1] at hq2
        subst hq2
        exact is_list h2 isL_nil
      · rw [if_neg h1] at hq2
        subst hq2
        obtain ⟨y, hy, hv2⟩ := h.ps.get h2
        rw [parts_at ok hp8] at hy
        obtain rfl := Option.some.inj hy
        exact isP_fr fr hX hv2
  have oldmem : ∀ (f : Nat) (la : Addr), L.B.las[f]? = some la → la ∈ L.A.las ++ L.B.las := fun f la q => List.mem_append_right _ (List.mem_of_getElem? q)
  have trY : ∀ la, la ∈ L.A.las → ∃ xs, G la = some (.lst xs) := fun la q => by
    obtain ⟨f, hf⟩ := List.getElem?_of_mem q
    exact ⟨_, h.A_.2.2.2.2 f la hf⟩
  have cross : ∀ (f f' : Nat) (la : Addr), las'[f]? = some la → L.A.las[f']? = some la → G3 la = some (.lst []) := fun f f' la q q' => by
    have hm := List.mem_of_getElem? q'
    rcases hold f la q with q1 | q1
    · have := h.inj (L.A.las.length + f) f' la (by rw [List.getElem?_append_right (by omega), Nat.add_sub_cancel_left]; exact q1) (by rw [List.getElem?_append_left (List.getElem?_eq_some_iff.mp q').1]; exact q')
      rcases this with z | z
      · have := (List.getElem?_eq_some_iff.mp q1).1
        have := (List.getElem?_eq_some_iff.mp q').1
        omega
      · exact k z (List.mem_append_right _ hm)
    · obtain ⟨xs, q2⟩ := trY la hm
      rw [q1] at q2
      cases q2
  refine ⟨hln, k h.cat_ (by simp), k h.b_ (by simp), k h.e_ (by simp), k h.d_ (by simp), h.made, Nat.le_succ_of_le h.kl, k h.il_ (by simp), insY, hin, hpl, parts, .inl ⟨rfl, rfl⟩, h.nd, fun la hla => ?_, fun x x' la h1 h2 => ?_⟩
  · have hla' : la ∈ L.A.las ++ las' := hla
    rcases List.mem_append.mp hla' with q | q
    · exact h.sep la (List.mem_append_left _ q)
    · obtain ⟨f, hf⟩ := List.getElem?_of_mem q
      rcases hold f la hf with q1 | q1
      · exact h.sep la (oldmem f la q1)
      · exact trk la q1
  · have h1' : (L.A.las ++ las')[x]? = some la := h1
    have h2' : (L.A.las ++ las')[x']? = some la := h2
    show x = x' ∨ G3 la = some (.lst [])
    rw [List.getElem?_append] at h1' h2'
    have yy : ∀ (f f' : Nat), L.A.las[f]? = some la → L.A.las[f']? = some la → f = f' ∨ G3 la = some (.lst []) := fun f f' q q' => by
      rcases h.inj f f' la (by rw [List.getElem?_append_left (List.getElem?_eq_some_iff.mp q).1]; exact q) (by rw [List.getElem?_append_left (List.getElem?_eq_some_iff.mp q').1]; exact q') with z | z
      · exact .inl (by omega)
      · exact .inr (k z (List.mem_append_right _ (List.mem_of_getElem? q)))
    split at h1' <;> split at h2'
    · exact yy x x' h1' h2'
    · exact .inr (cross _ _ la h2' h1')
    · exact .inr (cross _ _ la h1' h2')
    · rcases hinj _ _ la h1' h2' with z | z
      · exact .inl (by omega)
      · exact .inr z
def Lay.X (L : Lay) (i : Nat) : InsA := if i = 0 then L.A else L.B
section
variable {CC CI CL ln : Addr} {G G3 : Hp} {s : Fc05.St} {n : Nat} {L : Lay} {i : Nat}
theorem Lay.ins_eq : L.ins i = (L.X i).i := by
  unfold Lay.ins Lay.X
  split <;> rfl
theorem LineAt.xOk (h : LineAt CC CI CL G ln s n L) (i : Nat) : InsOk CI G L.c s.cat (Fc05.inst s i) (L.X i) := by
  unfold Lay.X Fc05.inst
  split
  · exact h.A_
  · exact h.B_
structure SepX (L : Lay) (i : Nat) : Prop where
  sl : (L.X i).s ≠ (L.X i).l
  cs : ∀ a, a ∈ [L.b, L.e, L.il, L.pl, (L.X (1 - i)).s, (L.X (1 - i)).l] → a ≠ (L.X i).s ∧ a ≠ (L.X i).l
  cp : ∀ a, a ∈ [L.b, L.e, L.il, (L.X (1 - i)).s, (L.X (1 - i)).l, (L.X i).s, (L.X i).l] → a ≠ L.pl
  las : ∀ la, la ∈ (L.X i).las ++ (L.X (1 - i)).las → la ∉ L.cells
theorem LineAt.sepX (h : LineAt CC CI CL G ln s n L) (hi : i < 2) : SepX L i := by
  have nd : [L.b, L.e, L.il, L.pl, L.A.s, L.A.l, L.B.s, L.B.l].Nodup := h.nd
  simp only [List.nodup_cons, List.mem_cons, List.not_mem_nil, or_false, not_or, not_false_eq_true, List.nodup_nil, and_true] at nd
  obtain ⟨⟨n1, n2, n3, n4, n5, n6, n7⟩, ⟨n8, n9, n10, n11, n12, n13⟩, ⟨n14, n15, n16, n17, n18⟩, ⟨n19, n20, n21, n22⟩, ⟨n23, n24, n25⟩, ⟨n26, n27⟩, n28⟩ := nd
  have hi2 : i = 0 ∨ i = 1 := by omega
  rcases hi2 with rfl | rfl
  · refine ⟨n23, fun a ha => ?_, fun a ha => ?_, fun la hla => h.sep la ?_⟩
    · simp only [List.mem_cons, List.not_mem_nil, or_false] at ha
      rcases ha with rfl | rfl | rfl | rfl | rfl | rfl
      · exact ⟨n4, n5⟩
      · exact ⟨n10, n11⟩
      · exact ⟨n15, n16⟩
      · exact ⟨n19, n20⟩
      · exact ⟨Ne.symm n24, Ne.symm n26⟩
      · exact ⟨Ne.symm n25, Ne.symm n27⟩
    · simp only [List.mem_cons, List.not_mem_nil, or_false] at ha
      rcases ha with rfl | rfl | rfl | rfl | rfl | rfl | rfl
      · exact n3
      · exact n9
      · exact n14
      · exact Ne.symm n21
      · exact Ne.symm n22
      · exact Ne.symm n19
      · exact Ne.symm n20
    · exact hla
  · refine ⟨n28, fun a ha => ?_, fun a ha => ?_, fun la hla => h.sep la ?_⟩
    · simp only [List.mem_cons, List.not_mem_nil, or_false] at ha
      rcases ha with rfl | rfl | rfl | rfl | rfl | rfl
      · exact ⟨n6, n7⟩
      · exact ⟨n12, n13⟩
      · exact ⟨n17, n18⟩
      · exact ⟨n21, n22⟩
      · exact ⟨n24, n25⟩
      · exact ⟨n26, n27⟩
    · simp only [List.mem_cons, List.not_mem_nil, or_false] at ha
      rcases ha with rfl | rfl | rfl | rfl | rfl | rfl | rfl
      · exact n3
      · exact n9
      · exact n14
      · exact Ne.symm n19
      · exact Ne.symm n20
      · exact Ne.symm n21
      · exact Ne.symm n22
    · exact (List.mem_append.mp hla).elim (fun z => List.mem_append_right _ z) fun z => List.mem_append_left _ z
/-- within one instance: two places with one list hold nothing; a list of the other -/
theorem LineAt.injX (h : LineAt CC CI CL G ln s n L) (hi : i < 2) {f f' : Nat} {la : Addr} (h1 : (L.X i).las[f]? = some la) (h2 : (L.X i).las[f']? = some la) : f = f' ∨ G la = some (.lst []) := by
  have hi2 : i = 0 ∨ i = 1 := by omega
  rcases hi2 with rfl | rfl
  · have h1' : L.A.las[f]? = some la := h1
    have h2' : L.A.las[f']? = some la := h2
    exact h.inj f f' la (by rw [List.getElem?_append_left (List.getElem?_eq_some_iff.mp h1').1]; exact h1') (by rw [List.getElem?_append_left (List.getElem?_eq_some_iff.mp h2').1]; exact h2')
  · have h1' : L.B.las[f]? = some la := h1
    have h2' : L.B.las[f']? = some la := h2
    rcases h.inj (L.A.las.length + f) (L.A.las.length + f') la (by rw [List.getElem?_append_right (by omega), Nat.add_sub_cancel_left]; exact h1') (by rw [List.getElem?_append_right (by omega), Nat.add_sub_cancel_left]; exact h2') with z | z
    · exact .inl (by omega)
    · exact .inr z
theorem LineAt.injY (h : LineAt CC CI CL G ln s n L) (hi : i < 2) {f : Nat} {la : Addr} (h1 : (L.X i).las[f]? = some la) (h2 : la ∈ (L.X (1 - i)).las) : G la = some (.lst []) := by
  obtain ⟨f', h2⟩ := List.getElem?_of_mem h2
  have hi2 : i = 0 ∨ i = 1 := by omega
  rcases hi2 with rfl | rfl
  · have h1' : L.A.las[f]? = some la := h1
    have h2' : L.B.las[f']? = some la := h2
    have hl := (List.getElem?_eq_some_iff.mp h1').1
    rcases h.inj f (L.A.las.length + f') la (by rw [List.getElem?_append_left hl]; exact h1') (by rw [List.getElem?_append_right (by omega), Nat.add_sub_cancel_left]; exact h2') with z | z
    · omega
    · exact z
  · have h1' : L.B.las[f]? = some la := h1
    have h2' : L.A.las[f']? = some la := h2
    have hl := (List.getElem?_eq_some_iff.mp h2').1
    rcases h.inj (L.A.las.length + f) f' la (by rw [List.getElem?_append_right (by omega), Nat.add_sub_cancel_left]; exact h1') (by rw [List.getElem?_append_left hl]; exact h2') with z | z
    · omega
    · exact z
theorem line_told (hi : i < 2) {X : Addr → Prop} {t' : Fc05.Inst} {las' : List Addr} {pvs' : List V} (h : LineAt CC CI CL G ln s n L) (ok : StOk s)
    (fr : ∀ a o, G a = some o → ¬ X a → G3 a = some o) (hX : ∀ a, X a → (∃ xs, G a = some (.lst xs) ∧ NotP G xs) ∨ ∃ C dx fs, G a = some (.ins C dx fs))
    (nX : ∀ a, a ∈ [L.c, L.b, L.e, L.d, L.il, (L.X (1 - i)).i, (L.X (1 - i)).s, (L.X (1 - i)).l] ++ (L.X (1 - i)).las → ¬ X a)
    (hln : G3 ln = some (.ins CL L.dxl (lineF L.c L.il L.pl .non))) (hpl : G3 L.pl = some (.lst pvs')) (h8 : pvs'.length = 8) (hpv : ∀ (p : Nat) (v : V), pvs'[p]? = some v → (p / 4 = i ∧ ∃ q, v = .ref q ∧ G3 q = some (.lst [])) ∨ (p / 4 ≠ i ∧ L.pvs[p]? = some v))
    (hin : InsOk CI G3 L.c s.cat t' { L.X i with las := las' }) (hold : ∀ (f : Nat) (la : Addr), las'[f]? = some la → (L.X i).las[f]? = some la ∨ G la = none) (hinj : ∀ (f f' : Nat) (la : Addr), las'[f]? = some la → las'[f']? = some la → f = f' ∨ G3 la = some (.lst [])) :
    ∃ L', LineAt CC CI CL G3 ln (Fc05.withInst s i t') (n + 1) L' := by
  have hi2 : i = 0 ∨ i = 1 := by omega
  rcases hi2 with rfl | rfl
  · exact ⟨_, line_told0 h ok fr hX nX hln hpl h8 hpv hin hold hinj⟩
  · exact ⟨_, line_told1 h ok fr hX nX hln hpl h8 hpv hin hold hinj⟩
theorem ins_ne_line {a C dx : Addr} {c s' l : Addr} (h : LineAt CC CI CL G ln s n L) (ha : G a = some (.ins C dx (instF c s' l))) : a ≠ ln := ne_of ha h.ln_ fun z => by
  injection z with _ _ z
  have := congrArg List.length z
  cases this
theorem cat_ne_line (h : LineAt CC CI CL G ln s n L) : L.c ≠ ln := ne_of h.cat_ h.ln_ fun z => by
  injection z with _ _ z
  unfold catF lineF at z
  injection z with z _
  injection z with z _
  exact absurd z (by decide)
end
theorem total_sum (l : List Nat) : (l.map fun (n : Nat) => (n : Int)).sum = ((l.foldl (fun a b => a + b) 0 : Nat) : Int) := by
  induction l with
  | nil => rfl
  | cons a l ih =>
    rw [List.map_cons, List.sum_cons, ih, List.foldl_cons, foldl_sum l (0 + a)]
    omega
theorem ev_sum {K : PySem.W.Frag} {M : Addr → Prop} {σ : L2.St} {H : Hp} {ta : TE} {l : List Nat} (ha : Ev M ta σ H (.is l)) : Ev M (tCB (rSum K) (tCons ta tNil)) σ H (.is (l.foldl (fun a b => a + b) 0)) :=
  fun H1 e Q q => ha H1 e _ fun w H2 e2 hw => by
    obtain ⟨a, vs, rfl, h1, h2⟩ := Is.list hw
    obtain rfl := h2.nats
    refine ⟨a, l.map fun (n : Nat) => (n : Int), rfl, SqL.of (by rw [List.map_map]; exact hid_sub _ _ h1), ?_⟩
    rw [total_sum]
    exact q _ H2 e2 is_nat
theorem ev_ixV {K : PySem.W.Frag} {M : Addr → Prop} {σ : L2.St} {H : Hp} {ta tb : TE} {l : Addr} {xs : List V} {i : Nat} {v : V} (hl : H l = some (.lst xs)) (hx : xs[i]? = some v) (ha : Ev M ta σ H (.val (.ref l))) (hb : Ev M tb σ H (.is i)) : Ev M (tOp (rIxL K) ta tb) σ H (.val v) :=
  fun H1 e Q q => ha H1 e _ fun w H2 e2 hw => hb H2 (e.trans e2) _ fun z H3 e3 hz => by
    obtain rfl : w = .ref l := hw
    obtain rfl := Is.nat hz
    exact ⟨l, xs, _, v, rfl, rfl, SqL.of (((e.trans e2).trans e3) _ _ hl), atI_nat hx, q v H3 (e2.trans e3) rfl⟩
section
variable {P : Program} {w : World} {K : PySem.W.Frag} {mg : Str → Option Value} {base : Heap} {CC CI CL WN : Addr}
/-- behind the change of an instance: line.forget_parts(i); return [..] -/
theorem s_told {D : Ends} {σ : L2.St} {M : Addr → Prop} {H0 H1 H2 : Hp} {ln : Addr} {s : Fc05.St} {n : Nat} {L : Lay} {i : Nat} {C : Addr → Prop} {t' : Fc05.Inst} {las' : List Addr} {te : TE} {ans : List Int} {k : Fc05.Call} (hi : i < 2) (hσ : σ[0]? = some (some (.ref ln))) (hib : σ[1]? = some (some (.int (i : Nat))))
    (kk : ∀ u H' L', Keep M H0 H' → LineAt CC CI CL (hid M H') ln (Fc05.step s k).1 (n + 1) L' → Is (hid M H') u (Fc05.step s k).2 → D.rt u H') (hs : Fc05.step s k = (Fc05.withInst s i t', ans))
    (kp : Keep M H0 H1) (hM : Tr M H1) (hL : LineAt CC CI CL (hid M H1) ln s n L) (ok : StOk s)
    (fr : ∀ a o, H1 a = some o → ¬ C a → H2 a = some o) (hC : ∀ a, C a → ∃ xs, hid M H1 a = some (.lst xs) ∧ NotP (hid M H1) xs)
    (nC : ∀ a, a ∈ [L.b, L.e, L.il, L.pl, (L.X (1 - i)).s, (L.X (1 - i)).l] ++ (L.X (1 - i)).las → ¬ C a)
    (hin : InsOk CI H2 L.c s.cat t' { L.X i with las := las' }) (hold : ∀ (f : Nat) (la : Addr), las'[f]? = some la → (L.X i).las[f]? = some la ∨ H1 la = none) (hinj : ∀ (f f' : Nat) (la : Addr), las'[f]? = some la → las'[f']? = some la → f = f' ∨ (H2 la = some (.lst []) ∧ hid M H1 la ≠ none))
    (hans : ∀ H', Tr M H' → Ev M te σ H' (.is ans)) : tSeq (tDrop (tMeth CL "forget_parts" (sp_forget_parts CC CI CL) [] E0 (tVar 0) (tCons (tVar 1) tNil))) (tRet te) D σ H2 := by
  have vis := fun {a : Addr} {o : HO} (h : hid M H1 a = some o) => hid_some h
  have mln : ¬ M ln := (vis hL.ln_).1
  have mpl : ¬ M L.pl := (vis hL.pl_).1
  have kI : ∀ {a C' dx : Addr} {fs : List (Str × V)}, hid M H1 a = some (.ins C' dx fs) → ¬ C a := fun {a C' dx fs} h z => by
    obtain ⟨xs, q, _⟩ := hC a z
    rw [h] at q
    cases q
  have mC : ∀ a, C a → ¬ M a := fun a z => by
    obtain ⟨xs, q, _⟩ := hC a z
    exact (hid_some q).1
  have hln2 : H2 ln = some (.ins CL L.dxl (lineF L.c L.il L.pl L.ch)) := fr _ _ (vis hL.ln_).2 (kI hL.ln_)
  have hpl2 : H2 L.pl = some (.lst L.pvs) := fr _ _ (vis hL.pl_).2 (nC _ (by simp))
  have l8 : L.pvs.length = 8 := by rw [hL.ps.length]; exact ok.np
  refine ⟨.ref ln, hσ, ln, L.dxl, _, rfl, hln2, lineF_none (by decide) (by decide) (by decide) (by decide), .int i, hib, ?_⟩
  refine ⟨ln, L.dxl, L.c, L.il, L.pl, L.ch, L.pvs, i, rfl, hln2, hpl2, l8, hi, fun H3 pvs' fr3 hln3 hpl3 h8 hpv => ?_⟩
  have nlp : ln ≠ L.pl := ne_of hln2 hpl2 fun z => nomatch z
  have tr2 : Tr M H2 := fun a m z => by
    cases q : H1 a with
    | none => exact hM a m q
    | some o =>
      rw [fr a o q fun w => mC a w m] at z
      cases z
  have fr13 : ∀ a o, hid M H1 a = some o → ¬ (C a ∨ a = L.pl ∨ a = ln) → hid M H3 a = some o := fun a o h hx => by
    obtain ⟨q1, q2⟩ := hid_some h
    rw [hid_no q1]
    exact fr3 a o (fr a o q2 fun z => hx (.inl z)) (fun z => hx (.inr (.inr z))) fun z => hx (.inr (.inl z))
  obtain ⟨np, _⟩ := hL.notP ok.np
  have xk := hL.xOk (1 - i)
  have xi := hL.xOk i
  have sp := hL.sepX hi
  have kp3 : Keep M H0 H3 := kp.trans fun a o m h => fr3 a o (fr a o h fun w => mC a w m) (fun z => mln (by rw [← z]; exact m)) fun z => mpl (by rw [← z]; exact m)
  have lasln : ∀ {a : Addr} {xs : List V}, hid M H1 a = some (.lst xs) → a ≠ ln := fun q => ne_of q hL.ln_ fun z => nomatch z
  have hin3 : InsOk CI (hid M H3) L.c s.cat t' { L.X i with las := las' } := by
    refine hin.fr fun a ha o q => ?_
    have key : ¬ M a ∧ a ≠ ln ∧ a ≠ L.pl := by
      simp only [List.mem_cons] at ha
      rcases ha with rfl | rfl | rfl | ha
      · exact ⟨(vis xi.1).1, ins_ne_line hL xi.1, ne_of xi.1 hL.pl_ fun z => nomatch z⟩
      · exact ⟨(vis xi.2.1).1, lasln xi.2.1, sp.cp _ (by simp)⟩
      · exact ⟨(vis xi.2.2.1).1, lasln xi.2.2.1, sp.cp _ (by simp)⟩
      · obtain ⟨f, hf⟩ := List.getElem?_of_mem ha
        rcases hold f a hf with q1 | q1
        · have q2 := xi.2.2.2.2 f a q1
          exact ⟨(vis q2).1, lasln q2, fun z => sp.las a (List.mem_append_left _ (List.mem_of_getElem? q1)) (by rw [z]; unfold Lay.cells; simp)⟩
        · exact ⟨hM.new q1, (fun z => by rw [z, (vis hL.ln_).2] at q1; cases q1), (fun z => by rw [z, (vis hL.pl_).2] at q1; cases q1)⟩
    rw [hid_no key.1]
    exact fr3 a o q key.2.1 key.2.2
  have hLine : ∃ L', LineAt CC CI CL (hid M H3) ln (Fc05.withInst s i t') (n + 1) L' := by
    refine line_told (X := fun a => C a ∨ a = L.pl ∨ a = ln) hi hL ok fr13 (fun a z => ?_) (fun a ha z => ?_) (by rw [hid_no mln]; exact hln3) (by rw [hid_no mpl]; exact hpl3) h8 (fun p v h => ?_) hin3 (fun f la h => ?_) (fun f f' la h1 h2 => ?_)
    · rcases z with z | z | z
      · exact .inl (hC a z)
      · rw [z]
        exact .inl ⟨_, hL.pl_, np⟩
      · rw [z]
        exact .inr ⟨_, _, _, hL.ln_⟩
    · rcases List.mem_append.mp ha with ha | ha
      · simp only [List.mem_cons, List.not_mem_nil, or_false] at ha
        rcases ha with rfl | rfl | rfl | rfl | rfl | rfl | rfl | rfl
        · rcases z with z | z | z
          · exact kI hL.cat_ z
          · exact ne_of hL.cat_ hL.pl_ (fun z => nomatch z) z
          · exact cat_ne_line hL z
        · rcases z with z | z | z
          · exact nC _ (by simp) z
          · exact sp.cp _ (by simp) z
          · exact lasln hL.b_ z
        · rcases z with z | z | z
          · exact nC _ (by simp) z
          · exact sp.cp _ (by simp) z
          · exact lasln hL.e_ z
        · rcases z with z | z | z
          · obtain ⟨xs, q, _⟩ := hC _ z
            rw [hL.d_] at q
            cases q
          · exact ne_of hL.d_ hL.pl_ (fun z => nomatch z) z
          · exact ne_of hL.d_ hL.ln_ (fun z => nomatch z) z
        · rcases z with z | z | z
          · exact nC _ (by simp) z
          · exact sp.cp _ (by simp) z
          · exact lasln hL.il_ z
        · rcases z with z | z | z
          · exact kI xk.1 z
          · exact ne_of xk.1 hL.pl_ (fun z => nomatch z) z
          · exact ins_ne_line hL xk.1 z
        · rcases z with z | z | z
          · exact nC _ (by simp) z
          · exact sp.cp _ (by simp) z
          · exact lasln xk.2.1 z
        · rcases z with z | z | z
          · exact nC _ (by simp) z
          · exact sp.cp _ (by simp) z
          · exact lasln xk.2.2.1 z
      · obtain ⟨f, hf⟩ := List.getElem?_of_mem ha
        rcases z with z | z | z
        · exact nC _ (List.mem_append_right _ ha) z
        · exact sp.las a (List.mem_append_right _ ha) (by rw [z]; unfold Lay.cells; simp)
        · exact lasln (xk.2.2.2.2 f a hf) z
    · rcases hpv p v h with ⟨h1, q, rfl, h2, h3⟩ | ⟨h1, h2⟩
      · refine .inl ⟨h1, q, rfl, ?_⟩
        rw [hid_no (tr2.new h3)]
        exact h2
      · exact .inr ⟨h1, h2⟩
    · rcases hold f la h with q | q
      · exact .inl q
      · refine .inr ?_
        by_cases m : M la
        · exact hid_yes m
        · rw [hid_no m]
          exact q
    · rcases hinj f f' la h1 h2 with z | ⟨z1, z2⟩
      · exact .inl z
      · refine .inr ?_
        cases q : hid M H1 la with
        | none => exact absurd q z2
        | some o =>
          obtain ⟨q1, q2⟩ := hid_some q
          rw [hid_no q1]
          refine fr3 la _ z1 (fun z => ?_) fun z => ?_
          · rw [z, hln2] at z1
            cases z1
          · rw [z, hpl2] at z1
            injection z1 with z1
            injection z1 with z1
            rw [z1] at l8
            cases l8
  obtain ⟨L', hL'⟩ := hLine
  have hM3 : Tr M H3 := fun a m z => by
    cases q : H2 a with
    | none => exact tr2 a m q
    | some o =>
      rw [fr3 a o q (fun z => mln (by rw [← z]; exact m)) fun z => mpl (by rw [← z]; exact m)] at z
      cases z
  exact s_ret (M := M) (hans H3 hM3) fun u H4 e4 hu => kk u H4 L' (kp3.trans (Keep.of e4)) (by rw [hs]; exact hL'.mono (hid_mono e4)) (by rw [hs]; exact hu)
theorem notP_nv {G : Hp} {l : List Nat} (h : l ≠ []) : NotP G (nv l) := by
  cases l with
  | nil => exact absurd rfl h
  | cons a r => exact ⟨_, _, rfl, fun b ts z => nomatch z⟩
theorem xs_ne {s : Fc05.St} (ok : StOk s) (i : Nat) : (Fc05.inst s i).size ≠ [] := fun z => by
  have h1 := (ok.ii i).sz
  have h2 := ok.cat.pos
  rw [z] at h1
  simp at h1
  omega
theorem xl_notP {CI c : Addr} {G : Hp} {m : Fc05.Cat} {t : Fc05.Inst} {A : InsA} (ok : CatOk m) (h : InsOk CI G c m t A) : NotP G (A.las.map V.ref) := by
  have h1 := ok.pos
  have h2 := ok.nle
  have h3 := h.2.2.2.1
  cases e : A.las with
  | nil =>
    rw [e] at h3
    simp at h3
    omega
  | cons la r =>
    refine ⟨_, _, rfl, fun b ts z q => ?_⟩
    injection z with z
    rw [← z, h.2.2.2.2 0 la (by rw [e]; rfl)] at q
    cases q
theorem ok_call_rows {f : Addr} {fd : FuncData} (F : Fun K "call_rows" "call_rows" s_call_rows f fd) (T : Txt K mg CC CI CL WN) (g_forget_parts : MetOk P w K mg base CL 1 "forget_parts" ["self", "i"] (sp_forget_parts CC CI CL)) (g_tell_size : MetOk P w K mg base CI 2 "tell_size" ["self", "x", "k"] (sp_tell_size CC CI CL)) (g_has_instance : MetOk P w K mg base CL 1 "has_instance" ["self", "i"] (sp_has_instance CC CI CL)) : FnOk P w K mg base CX0 3 f fd ["line", "i", "x", "k"] (sp_call_rows CC CI CL) := by
  refine F.ok sc_call_rows (fun vs H Q E h => ?_) (fun cdv A outer s H vs Q E hr h => ⟨_, (pss_cons (ps_if (pt_not (pt_val (pe_methD (pv 0) T.cCL g_has_instance (hr.mono (by decide)) (pa_cons (pv 1) pa_nil)))) (pss_one (ps_ret (pe_lst (pa_cons (pe_gI T.c_NO_SUCH_INSTANCE rfl) pa_nil)))) pss_nil)
    (pss_cons (ps_if (pt_cmpR op_ge (pv 2) (pe_fld (pe_fld (pv 0) rfl) rfl) (nomark _)) (pss_one (ps_ret (pe_lst (pa_cons (pe_gI T.c_UNFIT rfl) pa_nil)))) pss_nil)
    (pss_cons (ps_set (i := 4) sc_call_rows.nd rfl (Or.inl rfl) (pe_ix ix_list (pe_fld (pv 0) rfl) (pv 1) (fun _ _ => rfl)))
    (pss_cons (ps_set (i := 5) sc_call_rows.nd rfl (Or.inl rfl) (pe_op op_add (pe_op op_sub (pe_callB (cr_sum rfl) (by rfl) T.f_sum (by decide +kernel) (pa_cons (pe_fld (pv 4) rfl) pa_nil)) (pe_ix ix_list (pe_fld (pv 4) rfl) (pv 2) (fun _ _ => rfl))) (pv 3)))
    (pss_cons (ps_if (pt_cmpR op_gt (pv 5) (pe_gI T.c_MOST_ROWS rfl) (nomark _)) (pss_one (ps_ret (pe_lst (pa_cons (pe_gI T.c_FULL rfl) pa_nil)))) pss_nil)
    (pss_cons (ps_expr (pe_methD (pv 4) T.cCI g_tell_size (hr.mono (by decide)) (pa_cons (pv 2) (pa_cons (pv 3) pa_nil))))
    (pss_cons (ps_expr (pe_methD (pv 0) T.cCL g_forget_parts (hr.mono (by decide)) (pa_cons (pv 1) pa_nil)))
    (pss_one (ps_ret (pe_lst (pa_cons (pv 5) pa_nil))))))))))), ?_⟩)
  · obtain ⟨_, _, _, _, _, _, _, rfl, _, ⟨_, _, _, rfl, _⟩, _⟩ := h
    rfl
  · obtain ⟨M, ln, s, n, L, rest, kk, rfl, hM, ⟨i, x, j, rfl, rfl⟩, hL, ok, hn, k⟩ := h
    refine s_ifN (et_not (et_B (M := M) (ev_has_instance hM (ev_o rfl) hL (ev_n rfl)))) (fun hb H1 e1 => ?_) fun hb H1 e1 => ?_
    · have hb' : ¬ i < 2 := by simpa using hb
      refine s_rq k hL e1 ?_ (ev_ref1 (hM.mono e1) (ev_cz (z := -2)))
      show (if _ then _ else _) = _
      rw [if_pos (show 1 < i by omega)]
    · have hi : i < 2 := by simpa using hb
      have hM1 := hM.mono e1
      have hL1 := hL.mono (hid_mono (M := M) e1)
      refine s_ifN (et_test (M := M) (ev_ge (ev_n rfl) (ev_things T (ev_Lcat T (ev_o rfl) hL1) hL1.cat))) (fun hb2 H2 e2 => ?_) fun hb2 H2 e2 => ?_
      · refine s_rq k hL (e1.trans e2) ?_ (ev_ref1 (hM1.mono e2) (ev_cz (z := -1)))
        show (if _ then _ else _) = _
        rw [if_neg (show ¬ 1 < i by omega), if_pos (of_decide_eq_true hb2)]
      · have hx : x < s.cat.n := by
          have h : ¬ s.cat.n ≤ x := of_decide_eq_false hb2
          omega
        have e12 := e1.trans e2
        have hL2 := hL.mono (hid_mono (M := M) e12)
        refine s_asgS (M := M) (ev_Lins T (ev_o rfl) hL2 hi (ev_n rfl)) fun vi H3 e3 hvi => ?_
        obtain rfl : vi = .ref (L.ins i) := hvi
        have e13 := e12.trans e3
        have hL3 := hL.mono (hid_mono (M := M) e13)
        obtain ⟨c', hin, _, io⟩ := hL3.inI ok i
        have hle : Fc05.rows (Fc05.inst s i) x ≤ Fc05.total (Fc05.inst s i) := getD_le_sum _ _
        refine s_asgS (M := M) (P := .is (Fc05.total (Fc05.inst s i) - Fc05.rows (Fc05.inst s i) x + j)) (ev_add (ev_sub hle (ev_sum (ev_sizes T (ev_o rfl) hin)) (ev_ixL (ev_sizes T (ev_o rfl) hin) (ev_n rfl) (size_at io hx))) (ev_n rfl)) fun vt H4 e4 hvt => ?_
        obtain rfl := Is.nat hvt
        have e14 := e13.trans e4
        have hst0 : Fc05.step s (.rows i x j) = if 6 < Fc05.total (Fc05.inst s i) - Fc05.rows (Fc05.inst s i) x + j then (s, [-5]) else (Fc05.withInst s i (Fc05.resized s.cat (Fc05.inst s i) x j), [((Fc05.total (Fc05.inst s i) - Fc05.rows (Fc05.inst s i) x + j : Nat) : Int)]) := by
          show (if _ then _ else _) = _
          rw [if_neg (show ¬ 1 < i by omega), if_neg (show ¬ s.cat.n ≤ x by omega)]
          rfl
        refine s_ifN (et_test (M := M) (ev_gt (ev_n rfl) (ev_cn (n := 6)))) (fun hb3 H5 e5 => ?_) fun hb3 H5 e5 => ?_
        · refine s_rq k hL (e14.trans e5) ?_ (ev_ref1 (hM.mono (e14.trans e5)) (ev_cz (z := -5)))
          rw [hst0, if_pos (of_decide_eq_true hb3)]
        · have hb4 : ¬ 6 < Fc05.total (Fc05.inst s i) - Fc05.rows (Fc05.inst s i) x + j := of_decide_eq_false hb3
          have hst : Fc05.step s (.rows i x j) = (Fc05.withInst s i (Fc05.resized s.cat (Fc05.inst s i) x j), [((Fc05.total (Fc05.inst s i) - Fc05.rows (Fc05.inst s i) x + j : Nat) : Int)]) := by rw [hst0, if_neg hb4]
          have e15 := e14.trans e5
          have hM5 := hM.mono e15
          have hL5 := hL.mono (hid_mono (M := M) e15)
          have vis := fun {a : Addr} {o : HO} (h : hid M H5 a = some o) => hid_some h
          have xi := hL5.xOk i
          have sp := hL5.sepX hi
          have xl : ∀ la ∈ (L.X i).las, la ≠ (L.X i).s ∧ la ≠ (L.X i).l := fun la hla => by
            have h1 := sp.las la (List.mem_append_left _ hla)
            have hc : (L.X i).s ∈ L.cells ∧ (L.X i).l ∈ L.cells := by
              unfold Lay.cells Lay.X
              split <;> simp
            exact ⟨fun z => h1 (by rw [z]; exact hc.1), fun z => h1 (by rw [z]; exact hc.2)⟩
          have yl : ∀ la ∈ (L.X (1 - i)).las, la ≠ (L.X i).s ∧ la ≠ (L.X i).l := fun la hla => by
            have h1 := sp.las la (List.mem_append_right _ hla)
            have hc : (L.X i).s ∈ L.cells ∧ (L.X i).l ∈ L.cells := by
              unfold Lay.cells Lay.X
              split <;> simp
            exact ⟨fun z => h1 (by rw [z]; exact hc.1), fun z => h1 (by rw [z]; exact hc.2)⟩
          have xif : InsOk CI H5 L.c s.cat (Fc05.inst s i) (L.X i) := xi.mono hid_sub
          refine ⟨.ref (L.ins i), rfl, (L.X i).i, (L.X i).dx, _, by rw [Lay.ins_eq], xif.1, instF_none (by decide) (by decide) (by decide), .int x, rfl, .int j, rfl, ?_⟩
          refine ⟨L.c, L.dxc, L.b, L.e, L.d, s.cat, Fc05.inst s i, L.kvs, x, j, L.X i, by rw [Lay.ins_eq]; rfl, (vis hL5.cat_).2, (vis hL5.b_).2, (vis hL5.e_).2, (vis hL5.d_).2, hL5.made, ok.cat, ok.ii i, xif, hx, by omega, (sp.cs _ (by simp)).1, (sp.cs _ (by simp)).2, (sp.cs _ (by simp)).1, (sp.cs _ (by simp)).2, sp.sl, xl, fun H6 las' fr6 in6 rel => ?_⟩
          refine s_told (C := fun a => a = (L.X i).s ∨ a = (L.X i).l) (H1 := H5) hi rfl rfl k hst (Keep.of e15) hM5 hL5 ok (fun a o h hx => fr6 a o h (fun z => hx (.inl z)) fun z => hx (.inr z)) (fun a z => ?_) (fun a ha z => ?_) in6 rel.old (fun f f' la h1 h2 => ?_) fun H' hM' => ev_lst1 hM' (Ev.z (ev_n rfl))
          · rcases z with rfl | rfl
            · exact ⟨_, xi.2.1, notP_nv (xs_ne ok i)⟩
            · exact ⟨_, xi.2.2.1, xl_notP ok.cat xi⟩
          · rcases List.mem_append.mp ha with ha | ha
            · rcases z with z | z
              · exact (sp.cs a ha).1 z
              · exact (sp.cs a ha).2 z
            · rcases z with z | z
              · exact (yl a ha).1 z
              · exact (yl a ha).2 z
          · rcases rel.old f la h1 with q | q
            · rcases rel.old f' la h2 with q' | q'
              · rcases hL5.injX hi q q' with z | z
                · exact .inl z
                · have hne := xl la (List.mem_of_getElem? q)
                  exact .inr ⟨fr6 la _ (hid_some z).2 hne.1 hne.2, by rw [z]; exact fun z => nomatch z⟩
              · exact .inl (rel.inj f f' la h1 h2 q')
            · exact .inl (rel.inj f f' la h1 h2 q)
theorem lead_set {m : Fc05.Cat} {t : Fc05.Inst} {f r v : Nat} (hf : m.n ≤ f) (hl : f < t.tab.length) (f' : Nat) : lead m ⟨t.size, t.tab.set f ((t.tab.getD f []).set r v)⟩ f' = if f' = f then (lead m t f).set r v else lead m t f' := by
  unfold lead
  by_cases q : f' = f
  · subst q
    rw [if_pos rfl, if_neg (by omega), if_neg (by omega)]
    show (t.tab.set f' _).getD f' [] = _
    rw [List.getD_eq_getElem?_getD, List.getElem?_set_self hl]
    rfl
  · rw [if_neg q]
    by_cases q2 : f' < m.n
    · rw [if_pos q2, if_pos q2]
      rfl
    · rw [if_neg q2, if_neg q2]
      show (t.tab.set f _).getD f' [] = _
      rw [List.getD_eq_getElem?_getD, List.getElem?_set_ne (Ne.symm q), ← List.getD_eq_getElem?_getD]
theorem ok_call_set {f : Addr} {fd : FuncData} (F : Fun K "call_set" "call_set" s_call_set f fd) (T : Txt K mg CC CI CL WN) (g_forget_parts : MetOk P w K mg base CL 1 "forget_parts" ["self", "i"] (sp_forget_parts CC CI CL)) (g_has_row : MetOk P w K mg base CI 1 "has_row" ["self", "x", "r"] (sp_has_row CC CI CL)) (g_is_own : MetOk P w K mg base CC 1 "is_own" ["self", "f"] (sp_is_own CC CI CL)) (g_arrow_count : MetOk P w K mg base CC 1 "arrow_count" ["self"] (sp_arrow_count CC CI CL)) (g_has_instance : MetOk P w K mg base CL 1 "has_instance" ["self", "i"] (sp_has_instance CC CI CL)) : FnOk P w K mg base CX0 2 f fd ["line", "i", "f", "r", "v"] (sp_call_set CC CI CL) := by
  refine F.ok sc_call_set (fun vs H Q E h => ?_) (fun cdv A outer s H vs Q E hr h => ⟨_, (pss_cons (ps_if (pt_not (pt_val (pe_methD (pv 0) T.cCL g_has_instance (hr.mono (by decide)) (pa_cons (pv 1) pa_nil)))) (pss_one (ps_ret (pe_lst (pa_cons (pe_gI T.c_NO_SUCH_INSTANCE rfl) pa_nil)))) pss_nil)
    (pss_cons (ps_set (i := 5) sc_call_set.nd rfl (Or.inl rfl) (pe_fld (pv 0) rfl))
    (pss_cons (ps_if (pt_cmpR op_ge (pv 2) (pe_methD0 (pv 5) T.cCC g_arrow_count (hr.mono (by decide))) (nomark _)) (pss_one (ps_ret (pe_lst (pa_cons (pe_gI T.c_NO_SUCH_ARROW rfl) pa_nil)))) pss_nil)
    (pss_cons (ps_set (i := 6) sc_call_set.nd rfl (Or.inl rfl) (pe_ix ix_list (pe_fld (pv 0) rfl) (pv 1) (fun _ _ => rfl)))
    (pss_cons (ps_if (PW.pt (pw_or (pt_val (pe_methD (pv 5) T.cCC g_is_own (hr.mono (by decide)) (pa_cons (pv 2) pa_nil))) (pw_or (pt_not (pt_val (pe_methD (pv 6) T.cCI g_has_row (hr.mono (by decide)) (pa_cons (pe_ix ix_list (pe_fld (pv 5) rfl) (pv 2) (fun _ _ => rfl)) (pa_cons (pv 3) pa_nil))))) (pw_or1 (pt_cmpR op_gt (pv 4) (pe_gI T.c_NOT_TOLD rfl) (nomark _)))))) (pss_one (ps_ret (pe_lst (pa_cons (pe_gI T.c_UNFIT rfl) pa_nil)))) pss_nil)
    (pss_cons (ps_set (i := 7) sc_call_set.nd rfl (Or.inl rfl) (pe_ix ix_list (pe_ix ix_list (pe_fld (pv 6) rfl) (pv 2) (fun _ _ => rfl)) (pv 3) (fun _ _ => rfl)))
    (pss_cons (ps_asg (pv 4) (pg_sub (pe_ix ix_list (pe_fld (pv 6) rfl) (pv 2) (fun _ _ => rfl)) (pv 3) set_list))
    (pss_cons (ps_expr (pe_methD (pv 0) T.cCL g_forget_parts (hr.mono (by decide)) (pa_cons (pv 1) pa_nil)))
    (pss_one (ps_ret (pe_lst (pa_cons (pv 7) pa_nil)))))))))))), ?_⟩)
  · obtain ⟨_, _, _, _, _, _, _, rfl, _, ⟨_, _, _, _, rfl, _⟩, _⟩ := h
    rfl
  · obtain ⟨M, ln, s, n, L, rest, kk, rfl, hM, ⟨i, f, r, v, rfl, rfl⟩, hL, ok, hn, k⟩ := h
    refine s_ifN (et_not (et_B (M := M) (ev_has_instance hM (ev_o rfl) hL (ev_n rfl)))) (fun hb H1 e1 => ?_) fun hb H1 e1 => ?_
    · have hb' : ¬ i < 2 := by simpa using hb
      refine s_rq k hL e1 ?_ (ev_ref1 (hM.mono e1) (ev_cz (z := -2)))
      show (if _ then _ else _) = _
      rw [if_pos (show 1 < i by omega)]
    · have hi : i < 2 := by simpa using hb
      have hL1 := hL.mono (hid_mono (M := M) e1)
      refine s_asgS (M := M) (ev_Lcat T (ev_o rfl) hL1) fun vc H2 e2 hvc => ?_
      obtain rfl : vc = .ref L.c := hvc
      have e12 := e1.trans e2
      have hM2 := hM.mono e12
      have hL2 := hL.mono (hid_mono (M := M) e12)
      refine s_ifN (et_test (M := M) (ev_ge (ev_n rfl) (ev_arrow_count hM2 (ev_o rfl) hL2.cat))) (fun hb2 H3 e3 => ?_) fun hb2 H3 e3 => ?_
      · refine s_rq k hL (e12.trans e3) ?_ (ev_ref1 (hM2.mono e3) (ev_cz (z := -3)))
        show (if _ then _ else _) = _
        rw [if_neg (show ¬ 1 < i by omega), if_pos (of_decide_eq_true hb2)]
      · have hf : f < s.cat.arrows.length := by
          have h : ¬ s.cat.arrows.length ≤ f := of_decide_eq_false hb2
          omega
        have e13 := e12.trans e3
        have hL3 := hL.mono (hid_mono (M := M) e13)
        refine s_asgS (M := M) (ev_Lins T (ev_o rfl) hL3 hi (ev_n rfl)) fun vi H4 e4 hvi => ?_
        obtain rfl : vi = .ref (L.ins i) := hvi
        have e14 := e13.trans e4
        have hM4 := hM.mono e14
        have hL4 := hL.mono (hid_mono (M := M) e14)
        obtain ⟨c', hin, _, io⟩ := hL4.inI ok i
        have hfr := from_lt ok.cat hf
        have hst0 : Fc05.step s (.set i f r v) = if f < s.cat.n ∨ Fc05.rows (Fc05.inst s i) (Fc05.from_ s.cat f) ≤ r ∨ 99 < v then (s, [-1]) else (Fc05.withInst s i ⟨(Fc05.inst s i).size, (Fc05.inst s i).tab.set f (((Fc05.inst s i).tab.getD f []).set r v)⟩, [(Fc05.go s.cat (Fc05.inst s i) f r : Int)]) := by
          show (if _ then _ else _) = _
          rw [if_neg (show ¬ 1 < i by omega), if_neg (show ¬ s.cat.arrows.length ≤ f by omega)]
        have test : EvT (tOr (tB (tMeth CC "is_own" (sp_is_own CC CI CL) [] E0 (tVar 5) (tCons (tVar 2) tNil))) (tOr (tNot (tB (tMeth CI "has_row" (sp_has_row CC CI CL) [] E0 (tVar 6) (tCons (tOp (rIxL K) (tFld K (tVar 5) "begins") (tVar 2)) (tCons (tVar 3) tNil))))) (tTest (tOp (rI0 fun i j => .bl (decide (j < i))) (tVar 4) (tC (.int 99))))))
            [some (.ref ln), some (.int i), some (.int f), some (.int r), some (.int v), some (.ref L.c), some (.ref (L.ins i)), none] H4 (decide (f < s.cat.n ∨ Fc05.rows (Fc05.inst s i) (Fc05.from_ s.cat f) ≤ r ∨ 99 < v)) := by
          refine (et_or (et_B (M := M) (ev_is_own hM4 (ev_o rfl) hL4.cat (ev_n rfl))) fun _ => et_or (et_not (et_B (M := M) (ev_has_row hM4 (ev_o rfl) hin io (ev_ixL (ev_begins T (ev_o rfl) hL4.cat) (ev_n rfl) (arrows_at1 hf)) (ev_n rfl)))) fun _ => et_test (M := M) (ev_gt (ev_n rfl) (ev_cn (n := 99)))).eq ?_
          unfold hasRow
          rw [Bool.eq_iff_iff]
          simp [hfr.1]
        refine s_ifN test (fun hb3 H5 e5 => ?_) fun hb3 H5 e5 => ?_
        · refine s_rq k hL (e14.trans e5) ?_ (ev_ref1 (hM.mono (e14.trans e5)) (ev_cz (z := -1)))
          rw [hst0, if_pos (of_decide_eq_true hb3)]
        · have hb4 := of_decide_eq_false hb3
          have hnf : s.cat.n ≤ f := by omega
          have hr : r < Fc05.rows (Fc05.inst s i) (Fc05.from_ s.cat f) := by omega
          have hst : Fc05.step s (.set i f r v) = (Fc05.withInst s i ⟨(Fc05.inst s i).size, (Fc05.inst s i).tab.set f (((Fc05.inst s i).tab.getD f []).set r v)⟩, [(Fc05.go s.cat (Fc05.inst s i) f r : Int)]) := by rw [hst0, if_neg hb4]
          have hrl : r < (lead s.cat (Fc05.inst s i) f).length := by rw [lead_len ok.cat (ok.ii i) hf]; exact hr
          have e15 := e14.trans e5
          have hL5 := hL.mono (hid_mono (M := M) e15)
          obtain ⟨c5, hin5, _, _⟩ := hL5.inI ok i
          refine s_asgS (M := M) (ev_ixL (ev_ixL (ev_leads T (ev_o rfl) hin5) (ev_n rfl) (leads_at hf)) (ev_n rfl) (lead_at hrl)) fun vl H6 e6 hvl => ?_
          obtain rfl := Is.nat hvl
          have e16 := e15.trans e6
          have hM6 := hM.mono e16
          have hL6 := hL.mono (hid_mono (M := M) e16)
          have vis := fun {a : Addr} {o : HO} (h : hid M H6 a = some o) => hid_some h
          have xi := hL6.xOk i
          have sp := hL6.sepX hi
          have xif : InsOk CI H6 L.c s.cat (Fc05.inst s i) (L.X i) := xi.mono hid_sub
          have hfl : f < (L.X i).las.length := by rw [xi.2.2.2.1]; exact hf
          obtain ⟨la, hla⟩ : ∃ la, (L.X i).las[f]? = some la := ⟨_, List.getElem?_eq_getElem hfl⟩
          have hcla := xi.2.2.2.2 f la hla
          have hne : lead s.cat (Fc05.inst s i) f ≠ [] := fun z => by rw [z] at hrl; cases hrl
          have nonempty : hid M H6 la ≠ some (.lst []) := fun z => by
            rw [hcla] at z
            injection z with z
            injection z with z
            exact hne (List.map_eq_nil_iff.mp z)
          have lasc : ∀ a, a ∈ L.cells → a ≠ la := fun a ha z => sp.las la (List.mem_append_left _ (List.mem_of_getElem? hla)) (by rw [← z]; exact ha)
          have xc : (L.X i).s ∈ L.cells ∧ (L.X i).l ∈ L.cells ∧ (L.X (1 - i)).s ∈ L.cells ∧ (L.X (1 - i)).l ∈ L.cells := by
            unfold Lay.cells Lay.X
            refine ⟨?_, ?_, ?_, ?_⟩ <;> (split <;> simp)
          refine s_setLS (M := M) (P := .is v) (ev_n rfl) (ev_ixV (M := M0) (xif.2.2.1) (v := .ref la) (by rw [List.getElem?_map, hla]; rfl) (ev_fld (M := M0) (P := .val (.ref (L.X i).l)) (ev_o rfl) (by rw [hid0, Lay.ins_eq]; exact xif.1) T.cCI T.nCI_leads lkL rfl) (ev_n rfl)) (ev_n (M := M) rfl) (vis hcla).2 (by rw [List.length_map]; exact hrl) fun vv H7 e7 hvv => ?_
          obtain rfl := Is.nat hvv
          have e17 := e16.trans e7
          have hM7 := hM.mono e17
          have hL7 := hL.mono (hid_mono (M := M) e17)
          have xi7 := hL7.xOk i
          have xif7 : InsOk CI H7 L.c s.cat (Fc05.inst s i) (L.X i) := xi7.mono hid_sub
          have hcla7 := xi7.2.2.2.2 f la hla
          have nonempty7 : hid M H7 la ≠ some (.lst []) := fun z => by
            rw [hcla7] at z
            injection z with z
            injection z with z
            exact hne (List.map_eq_nil_iff.mp z)
          have hset : (nv (lead s.cat (Fc05.inst s i) f)).set r (.int (v : Nat)) = nv ((lead s.cat (Fc05.inst s i) f).set r v) := by rw [nv, nv, List.map_set]
          rw [hset]
          have htl : f < (Fc05.inst s i).tab.length := by rw [(ok.ii i).tb]; exact hf
          refine s_told (C := fun a => a = la) (H1 := H7) (las' := (L.X i).las) hi rfl rfl k hst (Keep.of e17) hM7 hL7 ok (fun a o h hx => by rw [upd_ne hx]; exact h) (fun a z => ?_) (fun a ha z => ?_) ⟨?_, ?_, ?_, xif7.2.2.2.1, fun f' la' h' => ?_⟩ (fun f' la' h' => .inl h') (fun f1 f2 la' h1 h2 => ?_) fun H' hM' => ev_lst1 hM' (Ev.z (ev_n rfl))
          · obtain rfl : a = la := z
            exact ⟨_, hcla7, notP_nv hne⟩
          · obtain rfl : a = la := z
            rcases List.mem_append.mp ha with ha | ha
            · refine lasc a ?_ rfl
              simp only [List.mem_cons, List.not_mem_nil, or_false] at ha
              rcases ha with z | z | z | z | z | z
              · rw [z]; unfold Lay.cells; simp
              · rw [z]; unfold Lay.cells; simp
              · rw [z]; unfold Lay.cells; simp
              · rw [z]; unfold Lay.cells; simp
              · rw [z]; exact xc.2.2.1
              · rw [z]; exact xc.2.2.2
            · exact nonempty7 (hL7.injY hi hla ha)
          · rw [upd_ne (ne_of xif7.1 (hid_some hcla7).2 fun z => nomatch z)]
            exact xif7.1
          · rw [upd_ne (lasc _ xc.1)]
            exact xif7.2.1
          · rw [upd_ne (lasc _ xc.2.1)]
            exact xif7.2.2.1
          · rw [lead_set hnf htl]
            by_cases q : la' = la
            · subst q
              rcases hL7.injX hi h' hla with z | z
              · rw [if_pos z]
                exact upd_same
              · exact absurd z nonempty7
            · rw [upd_ne q]
              by_cases q2 : f' = f
              · subst q2
                rw [hla] at h'
                exact absurd (Option.some.inj h').symm q
              · rw [if_neg q2]
                exact xif7.2.2.2.2 f' la' h'
          · rcases hL7.injX hi h1 h2 with z | z
            · exact .inl z
            · refine .inr ⟨?_, by rw [z]; exact fun z => nomatch z⟩
              rw [upd_ne fun w => nonempty7 (by rw [← w]; exact z)]
              exact (hid_some z).2
end
end Im

namespace Im
open PySem PySem.Spec PyProof.Rows L2
/-! ### from a call's numbers to the call -/
inductive Dec : Nat → List Nat → Fc05.Call → Prop
  | start (n : Nat) : Dec 0 [n] (.start n)
  | arrow (x y : Nat) : Dec 1 [x, y] (.arrow x y)
  | make (f g h : Nat) : Dec 2 [f, g, h] (.make f g h)
  | rows (i x j : Nat) : Dec 3 [i, x, j] (.rows i x j)
  | set (i f r v : Nat) : Dec 4 [i, f, r, v] (.set i f r v)
  | check (i : Nat) : Dec 5 [i] (.check i)
  | way (j : Nat) : Dec 6 [j] (.way j)
  | part (p m : Nat) (nums : List Nat) (l : List (Nat × Nat)) (h : Fc05Neutral.pairsIn nums = some l) : Dec 7 (p :: m :: nums) (.part p l)
  | meet (p q o : Nat) : Dec 8 [p, q, o] (.meet p q o)
  | join (p q o : Nat) : Dec 9 [p, q, o] (.join p q o)
  | implies (p q o : Nat) : Dec 10 [p, q, o] (.implies p q o)
  | not_ (p o : Nat) : Dec 11 [p, o] (.not_ p o)
  | forward (p o : Nat) : Dec 12 [p, o] (.forward p o)
  | back (p o : Nat) : Dec 13 [p, o] (.back p o)
  | forAll (p o : Nat) : Dec 14 [p, o] (.forAll p o)
  | count (i : Nat) : Dec 16 [i] (.count i)
  | nth (p j : Nat) : Dec 17 [p, j] (.nth p j)
  | sieves (x : Nat) : Dec 19 [x] (.sieves x)
  | within (p q : Nat) : Dec 15 [p, q] (.within p q)
  | truth (p x r : Nat) : Dec 18 [p, x, r] (.truth p x r)
  | decided (p : Nat) : Dec 20 [p] (.decided p)
  | shows (p : Nat) : Dec 21 [p] (.shows p)
def DecArgs (Pc : Nat → Prop) (rest : List V) (G : Hp) (k : Fc05.Call) : Prop := ∃ (c : Nat) (v : V) (given : List Nat), rest = [.int c, v] ∧ Is G v given ∧ given.length ≤ 1000 ∧ Dec c given k ∧ Pc c
def sp_answer_of_category_call (CC CI CL : Addr) : Sp := SpL CC CI CL (DecArgs fun c => c ≤ 2)
def sp_answer_of_instance_call (CC CI CL : Addr) : Sp := SpL CC CI CL (DecArgs fun c => ¬ c ≤ 2 ∧ c ≤ 6)
def sp_answer_of_part_call (CC CI CL : Addr) : Sp := SpL CC CI CL (DecArgs fun c => ¬ c ≤ 6 ∧ c ≤ 11)
def sp_answer_of_map_call (CC CI CL : Addr) : Sp := SpL CC CI CL (DecArgs fun c => ¬ c ≤ 11 ∧ c ≤ 14)
def sp_answer_of_counting_call (CC CI CL : Addr) : Sp := SpL CC CI CL (DecArgs fun c => c = 16 ∨ c = 17 ∨ c = 19)
def sp_answer_of_truth_call (CC CI CL : Addr) : Sp := SpL CC CI CL (DecArgs fun c => ¬ c ≤ 14 ∧ ¬ (c = 16 ∨ c = 17 ∨ c = 19))
def sp_answer_of (CC CI CL : Addr) : Sp := SpL CC CI CL (DecArgs fun _ => True)
theorem cutV_nat {xs : List V} {lo hi : Nat} (h1 : lo ≤ hi) (h2 : hi ≤ xs.length) : cutV xs (some (lo : Int)) (some (hi : Int)) = (xs.drop lo).take (hi - lo) := by
  unfold cutV
  rw [HT.sIx_nat, HT.sIx_nat, Nat.min_eq_left h2, Nat.min_eq_left (show lo ≤ xs.length by omega)]
theorem cutV_drop {xs : List V} {lo : Nat} (h1 : lo ≤ xs.length) : cutV xs (some (lo : Int)) none = xs.drop lo := by
  unfold cutV
  rw [HT.sIx_nat, HT.sIx_none, Nat.min_eq_left h1]
  exact List.take_of_length_le (by rw [List.length_drop]; omega)
theorem ev_drop2 {K : PySem.W.Frag} {M : Addr → Prop} {σ : L2.St} {H : Hp} {ta : TE} {a b : Nat} {l : List Nat} (hM : Tr M H) (ha : Ev M ta σ H (.is (a :: b :: l))) : Ev M (tSl (rSlL K) ta (tPart (tC (.int 2))) tNoPart) σ H (.is l) :=
  fun H1 e Q q => ha H1 e _ fun w H2 e2 hw => by
    obtain ⟨r, vs, rfl, h1, h2⟩ := Is.list hw
    obtain rfl := h2.nats
    refine ⟨2, rfl, r, _, rfl, SqL.of (hid_sub _ _ h1), fun p hp => ?_⟩
    have np : ¬ M p := (hM.mono (e.trans e2)).new hp
    have e5 : cutV (nv (a :: b :: l)) (some 2) none = nv l := cutV_drop (lo := 2) (by simp)
    refine q _ _ (e2.trans (same_new hp)) (is_nv ?_)
    rw [hid_no np, upd_same]
    exact congrArg (fun z => some (HO.lst z)) e5
theorem s_retL {CC CI CL ln : Addr} {args : List V → Hp → Fc05.Call → Prop} {M : Addr → Prop} {σ : L2.St} {H0 H : Hp} {ta : TE} {tr : TA} {ps : List Pr} {D : Ends} {s : Fc05.St} {n : Nat} {L : Lay} {k : Fc05.Call} (kk : ∀ u H' L', Keep M H0 H' → LineAt CC CI CL (hid M H') ln (Fc05.step s k).1 (n + 1) L' → Is (hid M H') u (Fc05.step s k).2 → D.rt u H') (hM : Tr M H0) (hL : LineAt CC CI CL (hid M H0) ln s n L) (ok : StOk s) (hn : n ≤ 10000) (e : Same H0 H)
    (h1 : Ev M ta σ H (.val (.ref ln))) (ha : EvA M tr σ H ps) (hargs : ∀ vs H1, Same H H1 → AllP ps vs (hid M H1) → args vs (hid M H1) k) : tRet (tCall (SpL CC CI CL args) [] E0 (tCons ta tr)) D σ H :=
  ea_cons h1 ha H (Same.refl H) (fun vs H1 => SpL CC CI CL args (vs ++ []) H1 D.rt E0) fun vs H1 e1 hv => by
    match vs, hv with
    | u :: vs, ⟨q1, q2⟩ =>
      obtain rfl : u = .ref ln := q1
      have e2 := e.trans e1
      rw [List.append_nil]
      exact ⟨M, ln, s, n, L, vs, k, rfl, hM.mono e2, hargs vs H1 e1 q2, hL.mono (hid_mono e2), ok, hn, fun u H' L' kp hl hi => kk u H' L' ((Keep.of e2).trans kp) hl hi⟩
section
variable {P : Program} {w : World} {K : PySem.W.Frag} {mg : Str → Option Value} {base : Heap} {CC CI CL WN : Addr}
theorem ok_answer_of_category_call {f : Addr} {fd : FuncData} (F : Fun K "answer_of_category_call" "answer_of_category_call" s_answer_of_category_call f fd) (T : Txt K mg CC CI CL WN) (g_call_make : DefOk P w K mg base 5 "call_make" ["line", "f", "g", "h"] (sp_call_make CC CI CL)) (g_call_arrow : DefOk P w K mg base 5 "call_arrow" ["line", "x", "y"] (sp_call_arrow CC CI CL)) (g_call_start : DefOk P w K mg base 5 "call_start" ["line", "n"] (sp_call_start CC CI CL)) : FnOk P w K mg base CX0 6 f fd ["line", "call", "given"] (sp_answer_of_category_call CC CI CL) := by
  refine F.ok sc_answer_of_category_call (fun vs H Q E h => ?_) (fun cdv A outer s H vs Q E hr h => ⟨_, (pss_cons (ps_if (pt_cmpR op_eq (pv 1) (pe_gI T.c_START rfl) (nomark _)) (pss_one (ps_ret (pe_callD g_call_start (hr.mono (by decide)) rfl (pa_cons (pv 0) (pa_cons (pe_ix ix_list (pv 2) pe_int (fun _ _ => rfl)) pa_nil))))) pss_nil)
    (pss_cons (ps_if (pt_cmpR op_eq (pv 1) (pe_gI T.c_ARROW rfl) (nomark _)) (pss_one (ps_ret (pe_callD g_call_arrow (hr.mono (by decide)) rfl (pa_cons (pv 0) (pa_cons (pe_ix ix_list (pv 2) pe_int (fun _ _ => rfl)) (pa_cons (pe_ix ix_list (pv 2) pe_int (fun _ _ => rfl)) pa_nil)))))) pss_nil)
    (pss_one (ps_ret (pe_callD g_call_make (hr.mono (by decide)) rfl (pa_cons (pv 0) (pa_cons (pe_ix ix_list (pv 2) pe_int (fun _ _ => rfl)) (pa_cons (pe_ix ix_list (pv 2) pe_int (fun _ _ => rfl)) (pa_cons (pe_ix ix_list (pv 2) pe_int (fun _ _ => rfl)) pa_nil))))))))), ?_⟩)
  · obtain ⟨_, _, _, _, _, _, _, rfl, _, ⟨_, _, _, rfl, _⟩, _⟩ := h
    rfl
  · obtain ⟨M, ln, s, n, L, rest, kk, rfl, hM, ⟨c, v, given, rfl, hv, hz, hd, hc⟩, hL, ok, hn, k⟩ := h
    cases hd <;> first | exact absurd hc (by decide) | skip
    · rename_i n
      refine s_ifN (et_test (M := M) (ev_eqN (ev_n (n := 0) rfl) (ev_cn (n := 0)))) (fun _ H0 e0 => ?_) (fun hb => absurd hb (by decide))
      have e := e0
      have hM1 := hM.mono e
      have hv1 := Is.mono (hid_mono (M := M) e) hv
      refine s_retL k hM hL ok hn e (ev_o rfl) (ea_cons (ev_ixL (x := n) (ev_d rfl hv1) (ev_cn (n := 0)) rfl) ea_nil) fun vs H9 e9 hvs => ?_
      obtain ⟨u1, rfl, q1⟩ := hvs.one
      obtain rfl := Is.nat q1
      exact ⟨n, rfl, rfl⟩
    · rename_i x y
      refine s_ifN (et_test (M := M) (ev_eqN (ev_n (n := 1) rfl) (ev_cn (n := 0)))) (fun hb => absurd hb (by decide)) fun _ H0 e0 => ?_
      refine s_ifN (et_test (M := M) (ev_eqN (ev_n (n := 1) rfl) (ev_cn (n := 1)))) (fun _ H1 e1 => ?_) (fun hb => absurd hb (by decide))
      have e := e0.trans e1
      have hM1 := hM.mono e
      have hv1 := Is.mono (hid_mono (M := M) e) hv
      refine s_retL k hM hL ok hn e (ev_o rfl) (ea_cons (ev_ixL (x := x) (ev_d rfl hv1) (ev_cn (n := 0)) rfl) (ea_cons (ev_ixL (x := y) (ev_d rfl hv1) (ev_cn (n := 1)) rfl) ea_nil)) fun vs H9 e9 hvs => ?_
      obtain ⟨u1, u2, rfl, q1, q2⟩ := hvs.two
      obtain rfl := Is.nat q1
      obtain rfl := Is.nat q2
      exact ⟨x, y, rfl, rfl⟩
    · rename_i f g h
      refine s_ifN (et_test (M := M) (ev_eqN (ev_n (n := 2) rfl) (ev_cn (n := 0)))) (fun hb => absurd hb (by decide)) fun _ H0 e0 => ?_
      refine s_ifN (et_test (M := M) (ev_eqN (ev_n (n := 2) rfl) (ev_cn (n := 1)))) (fun hb => absurd hb (by decide)) fun _ H1 e1 => ?_
      have e := e0.trans e1
      have hM1 := hM.mono e
      have hv1 := Is.mono (hid_mono (M := M) e) hv
      refine s_retL k hM hL ok hn e (ev_o rfl) (ea_cons (ev_ixL (x := f) (ev_d rfl hv1) (ev_cn (n := 0)) rfl) (ea_cons (ev_ixL (x := g) (ev_d rfl hv1) (ev_cn (n := 1)) rfl) (ea_cons (ev_ixL (x := h) (ev_d rfl hv1) (ev_cn (n := 2)) rfl) ea_nil))) fun vs H9 e9 hvs => ?_
      obtain ⟨u1, u2, u3, rfl, q1, q2, q3⟩ := hvs.three
      obtain rfl := Is.nat q1
      obtain rfl := Is.nat q2
      obtain rfl := Is.nat q3
      exact ⟨f, g, h, rfl, rfl⟩
theorem ok_answer_of_instance_call {f : Addr} {fd : FuncData} (F : Fun K "answer_of_instance_call" "answer_of_instance_call" s_answer_of_instance_call f fd) (T : Txt K mg CC CI CL WN) (g_call_way : DefOk P w K mg base 6 "call_way" ["line", "k"] (sp_call_way CC CI CL)) (g_call_check : DefOk P w K mg base 5 "call_check" ["line", "i"] (sp_call_check CC CI CL)) (g_call_set : DefOk P w K mg base 2 "call_set" ["line", "i", "f", "r", "v"] (sp_call_set CC CI CL)) (g_call_rows : DefOk P w K mg base 3 "call_rows" ["line", "i", "x", "k"] (sp_call_rows CC CI CL)) : FnOk P w K mg base CX0 7 f fd ["line", "call", "given"] (sp_answer_of_instance_call CC CI CL) := by
  refine F.ok sc_answer_of_instance_call (fun vs H Q E h => ?_) (fun cdv A outer s H vs Q E hr h => ⟨_, (pss_cons (ps_if (pt_cmpR op_eq (pv 1) (pe_gI T.c_ROWS rfl) (nomark _)) (pss_one (ps_ret (pe_callD g_call_rows (hr.mono (by decide)) rfl (pa_cons (pv 0) (pa_cons (pe_ix ix_list (pv 2) pe_int (fun _ _ => rfl)) (pa_cons (pe_ix ix_list (pv 2) pe_int (fun _ _ => rfl)) (pa_cons (pe_ix ix_list (pv 2) pe_int (fun _ _ => rfl)) pa_nil))))))) pss_nil)
    (pss_cons (ps_if (pt_cmpR op_eq (pv 1) (pe_gI T.c_SET rfl) (nomark _)) (pss_one (ps_ret (pe_callD g_call_set (hr.mono (by decide)) rfl (pa_cons (pv 0) (pa_cons (pe_ix ix_list (pv 2) pe_int (fun _ _ => rfl)) (pa_cons (pe_ix ix_list (pv 2) pe_int (fun _ _ => rfl)) (pa_cons (pe_ix ix_list (pv 2) pe_int (fun _ _ => rfl)) (pa_cons (pe_ix ix_list (pv 2) pe_int (fun _ _ => rfl)) pa_nil)))))))) pss_nil)
    (pss_cons (ps_if (pt_cmpR op_eq (pv 1) (pe_gI T.c_CHECK rfl) (nomark _)) (pss_one (ps_ret (pe_callD g_call_check (hr.mono (by decide)) rfl (pa_cons (pv 0) (pa_cons (pe_ix ix_list (pv 2) pe_int (fun _ _ => rfl)) pa_nil))))) pss_nil)
    (pss_one (ps_ret (pe_callD g_call_way (hr.mono (by decide)) rfl (pa_cons (pv 0) (pa_cons (pe_ix ix_list (pv 2) pe_int (fun _ _ => rfl)) pa_nil)))))))), ?_⟩)
  · obtain ⟨_, _, _, _, _, _, _, rfl, _, ⟨_, _, _, rfl, _⟩, _⟩ := h
    rfl
  · obtain ⟨M, ln, s, n, L, rest, kk, rfl, hM, ⟨c, v, given, rfl, hv, hz, hd, hc⟩, hL, ok, hn, k⟩ := h
    cases hd <;> first | exact absurd hc (by decide) | skip
    · rename_i i x j
      refine s_ifN (et_test (M := M) (ev_eqN (ev_n (n := 3) rfl) (ev_cn (n := 3)))) (fun _ H0 e0 => ?_) (fun hb => absurd hb (by decide))
      have e := e0
      have hM1 := hM.mono e
      have hv1 := Is.mono (hid_mono (M := M) e) hv
      refine s_retL k hM hL ok hn e (ev_o rfl) (ea_cons (ev_ixL (x := i) (ev_d rfl hv1) (ev_cn (n := 0)) rfl) (ea_cons (ev_ixL (x := x) (ev_d rfl hv1) (ev_cn (n := 1)) rfl) (ea_cons (ev_ixL (x := j) (ev_d rfl hv1) (ev_cn (n := 2)) rfl) ea_nil))) fun vs H9 e9 hvs => ?_
      obtain ⟨u1, u2, u3, rfl, q1, q2, q3⟩ := hvs.three
      obtain rfl := Is.nat q1
      obtain rfl := Is.nat q2
      obtain rfl := Is.nat q3
      exact ⟨i, x, j, rfl, rfl⟩
    · rename_i i f r v
      refine s_ifN (et_test (M := M) (ev_eqN (ev_n (n := 4) rfl) (ev_cn (n := 3)))) (fun hb => absurd hb (by decide)) fun _ H0 e0 => ?_
      refine s_ifN (et_test (M := M) (ev_eqN (ev_n (n := 4) rfl) (ev_cn (n := 4)))) (fun _ H1 e1 => ?_) (fun hb => absurd hb (by decide))
      have e := e0.trans e1
      have hM1 := hM.mono e
      have hv1 := Is.mono (hid_mono (M := M) e) hv
      refine s_retL k hM hL ok hn e (ev_o rfl) (ea_cons (ev_ixL (x := i) (ev_d rfl hv1) (ev_cn (n := 0)) rfl) (ea_cons (ev_ixL (x := f) (ev_d rfl hv1) (ev_cn (n := 1)) rfl) (ea_cons (ev_ixL (x := r) (ev_d rfl hv1) (ev_cn (n := 2)) rfl) (ea_cons (ev_ixL (x := v) (ev_d rfl hv1) (ev_cn (n := 3)) rfl) ea_nil)))) fun vs H9 e9 hvs => ?_
      obtain ⟨u1, u2, u3, u4, rfl, q1, q2, q3, q4⟩ := hvs.four
      obtain rfl := Is.nat q1
      obtain rfl := Is.nat q2
      obtain rfl := Is.nat q3
      obtain rfl := Is.nat q4
      exact ⟨i, f, r, v, rfl, rfl⟩
    · rename_i i
      refine s_ifN (et_test (M := M) (ev_eqN (ev_n (n := 5) rfl) (ev_cn (n := 3)))) (fun hb => absurd hb (by decide)) fun _ H0 e0 => ?_
      refine s_ifN (et_test (M := M) (ev_eqN (ev_n (n := 5) rfl) (ev_cn (n := 4)))) (fun hb => absurd hb (by decide)) fun _ H1 e1 => ?_
      refine s_ifN (et_test (M := M) (ev_eqN (ev_n (n := 5) rfl) (ev_cn (n := 5)))) (fun _ H2 e2 => ?_) (fun hb => absurd hb (by decide))
      have e := (e0.trans e1).trans e2
      have hM1 := hM.mono e
      have hv1 := Is.mono (hid_mono (M := M) e) hv
      refine s_retL k hM hL ok hn e (ev_o rfl) (ea_cons (ev_ixL (x := i) (ev_d rfl hv1) (ev_cn (n := 0)) rfl) ea_nil) fun vs H9 e9 hvs => ?_
      obtain ⟨u1, rfl, q1⟩ := hvs.one
      obtain rfl := Is.nat q1
      exact ⟨i, rfl, rfl⟩
    · rename_i j
      refine s_ifN (et_test (M := M) (ev_eqN (ev_n (n := 6) rfl) (ev_cn (n := 3)))) (fun hb => absurd hb (by decide)) fun _ H0 e0 => ?_
      refine s_ifN (et_test (M := M) (ev_eqN (ev_n (n := 6) rfl) (ev_cn (n := 4)))) (fun hb => absurd hb (by decide)) fun _ H1 e1 => ?_
      refine s_ifN (et_test (M := M) (ev_eqN (ev_n (n := 6) rfl) (ev_cn (n := 5)))) (fun hb => absurd hb (by decide)) fun _ H2 e2 => ?_
      have e := (e0.trans e1).trans e2
      have hM1 := hM.mono e
      have hv1 := Is.mono (hid_mono (M := M) e) hv
      refine s_retL k hM hL ok hn e (ev_o rfl) (ea_cons (ev_ixL (x := j) (ev_d rfl hv1) (ev_cn (n := 0)) rfl) ea_nil) fun vs H9 e9 hvs => ?_
      obtain ⟨u1, rfl, q1⟩ := hvs.one
      obtain rfl := Is.nat q1
      exact ⟨j, rfl, rfl⟩
theorem ok_answer_of_part_call {f : Addr} {fd : FuncData} (F : Fun K "answer_of_part_call" "answer_of_part_call" s_answer_of_part_call f fd) (T : Txt K mg CC CI CL WN) (g_call_not : DefOk P w K mg base 7 "call_not" ["line", "p", "o"] (sp_call_not CC CI CL)) (g_call_implies : DefOk P w K mg base 7 "call_implies" ["line", "p", "q", "o"] (sp_call_implies CC CI CL)) (g_call_join : DefOk P w K mg base 7 "call_join" ["line", "p", "q", "o"] (sp_call_join CC CI CL)) (g_call_meet : DefOk P w K mg base 7 "call_meet" ["line", "p", "q", "o"] (sp_call_meet CC CI CL)) (g_call_part : DefOk P w K mg base 7 "call_part" ["line", "p", "numbers"] (sp_call_part CC CI CL)) : FnOk P w K mg base CX0 8 f fd ["line", "call", "given"] (sp_answer_of_part_call CC CI CL) := by
  refine F.ok sc_answer_of_part_call (fun vs H Q E h => ?_) (fun cdv A outer s H vs Q E hr h => ⟨_, (pss_cons (ps_if (pt_cmpR op_eq (pv 1) (pe_gI T.c_PART rfl) (nomark _)) (pss_one (ps_ret (pe_callD g_call_part (hr.mono (by decide)) rfl (pa_cons (pv 0) (pa_cons (pe_ix ix_list (pv 2) pe_int (fun _ _ => rfl)) (pa_cons (pe_slice sl_list (pv 2) (po_some pe_int) po_none) pa_nil)))))) pss_nil)
    (pss_cons (ps_if (pt_cmpR op_eq (pv 1) (pe_gI T.c_MEET rfl) (nomark _)) (pss_one (ps_ret (pe_callD g_call_meet (hr.mono (by decide)) rfl (pa_cons (pv 0) (pa_cons (pe_ix ix_list (pv 2) pe_int (fun _ _ => rfl)) (pa_cons (pe_ix ix_list (pv 2) pe_int (fun _ _ => rfl)) (pa_cons (pe_ix ix_list (pv 2) pe_int (fun _ _ => rfl)) pa_nil))))))) pss_nil)
    (pss_cons (ps_if (pt_cmpR op_eq (pv 1) (pe_gI T.c_JOIN rfl) (nomark _)) (pss_one (ps_ret (pe_callD g_call_join (hr.mono (by decide)) rfl (pa_cons (pv 0) (pa_cons (pe_ix ix_list (pv 2) pe_int (fun _ _ => rfl)) (pa_cons (pe_ix ix_list (pv 2) pe_int (fun _ _ => rfl)) (pa_cons (pe_ix ix_list (pv 2) pe_int (fun _ _ => rfl)) pa_nil))))))) pss_nil)
    (pss_cons (ps_if (pt_cmpR op_eq (pv 1) (pe_gI T.c_IMPLIES rfl) (nomark _)) (pss_one (ps_ret (pe_callD g_call_implies (hr.mono (by decide)) rfl (pa_cons (pv 0) (pa_cons (pe_ix ix_list (pv 2) pe_int (fun _ _ => rfl)) (pa_cons (pe_ix ix_list (pv 2) pe_int (fun _ _ => rfl)) (pa_cons (pe_ix ix_list (pv 2) pe_int (fun _ _ => rfl)) pa_nil))))))) pss_nil)
    (pss_one (ps_ret (pe_callD g_call_not (hr.mono (by decide)) rfl (pa_cons (pv 0) (pa_cons (pe_ix ix_list (pv 2) pe_int (fun _ _ => rfl)) (pa_cons (pe_ix ix_list (pv 2) pe_int (fun _ _ => rfl)) pa_nil)))))))))), ?_⟩)
  · obtain ⟨_, _, _, _, _, _, _, rfl, _, ⟨_, _, _, rfl, _⟩, _⟩ := h
    rfl
  · obtain ⟨M, ln, s, n, L, rest, kk, rfl, hM, ⟨c, v, given, rfl, hv, hz, hd, hc⟩, hL, ok, hn, k⟩ := h
    cases hd <;> first | exact absurd hc (by decide) | skip
    · rename_i p m nums l hp
      refine s_ifN (et_test (M := M) (ev_eqN (ev_n (n := 7) rfl) (ev_cn (n := 7)))) (fun _ H0 e0 => ?_) (fun hb => absurd hb (by decide))
      have e := e0
      have hM1 := hM.mono e
      have hv1 := Is.mono (hid_mono (M := M) e) hv
      refine s_retL k hM hL ok hn e (ev_o rfl) (ea_cons (ev_ixL (x := p) (ev_d rfl hv1) (ev_cn (n := 0)) rfl) (ea_cons (ev_drop2 hM1 (ev_d rfl hv1)) ea_nil)) fun vs H9 e9 hvs => ?_
      obtain ⟨u, w', rfl, q1, q2⟩ := hvs.two
      obtain rfl := Is.nat q1
      exact ⟨p, w', nums, l, rfl, q2, by simp at hz; omega, hp, rfl⟩
    · rename_i p q o
      refine s_ifN (et_test (M := M) (ev_eqN (ev_n (n := 8) rfl) (ev_cn (n := 7)))) (fun hb => absurd hb (by decide)) fun _ H0 e0 => ?_
      refine s_ifN (et_test (M := M) (ev_eqN (ev_n (n := 8) rfl) (ev_cn (n := 8)))) (fun _ H1 e1 => ?_) (fun hb => absurd hb (by decide))
      have e := e0.trans e1
      have hM1 := hM.mono e
      have hv1 := Is.mono (hid_mono (M := M) e) hv
      refine s_retL k hM hL ok hn e (ev_o rfl) (ea_cons (ev_ixL (x := p) (ev_d rfl hv1) (ev_cn (n := 0)) rfl) (ea_cons (ev_ixL (x := q) (ev_d rfl hv1) (ev_cn (n := 1)) rfl) (ea_cons (ev_ixL (x := o) (ev_d rfl hv1) (ev_cn (n := 2)) rfl) ea_nil))) fun vs H9 e9 hvs => ?_
      obtain ⟨u1, u2, u3, rfl, q1, q2, q3⟩ := hvs.three
      obtain rfl := Is.nat q1
      obtain rfl := Is.nat q2
      obtain rfl := Is.nat q3
      exact ⟨p, q, o, rfl, rfl⟩
    · rename_i p q o
      refine s_ifN (et_test (M := M) (ev_eqN (ev_n (n := 9) rfl) (ev_cn (n := 7)))) (fun hb => absurd hb (by decide)) fun _ H0 e0 => ?_
      refine s_ifN (et_test (M := M) (ev_eqN (ev_n (n := 9) rfl) (ev_cn (n := 8)))) (fun hb => absurd hb (by decide)) fun _ H1 e1 => ?_
      refine s_ifN (et_test (M := M) (ev_eqN (ev_n (n := 9) rfl) (ev_cn (n := 9)))) (fun _ H2 e2 => ?_) (fun hb => absurd hb (by decide))
      have e := (e0.trans e1).trans e2
      have hM1 := hM.mono e
      have hv1 := Is.mono (hid_mono (M := M) e) hv
      refine s_retL k hM hL ok hn e (ev_o rfl) (ea_cons (ev_ixL (x := p) (ev_d rfl hv1) (ev_cn (n := 0)) rfl) (ea_cons (ev_ixL (x := q) (ev_d rfl hv1) (ev_cn (n := 1)) rfl) (ea_cons (ev_ixL (x := o) (ev_d rfl hv1) (ev_cn (n := 2)) rfl) ea_nil))) fun vs H9 e9 hvs => ?_
      obtain ⟨u1, u2, u3, rfl, q1, q2, q3⟩ := hvs.three
      obtain rfl := Is.nat q1
      obtain rfl := Is.nat q2
      obtain rfl := Is.nat q3
      exact ⟨p, q, o, rfl, rfl⟩
    · rename_i p q o
      refine s_ifN (et_test (M := M) (ev_eqN (ev_n (n := 10) rfl) (ev_cn (n := 7)))) (fun hb => absurd hb (by decide)) fun _ H0 e0 => ?_
      refine s_ifN (et_test (M := M) (ev_eqN (ev_n (n := 10) rfl) (ev_cn (n := 8)))) (fun hb => absurd hb (by decide)) fun _ H1 e1 => ?_
      refine s_ifN (et_test (M := M) (ev_eqN (ev_n (n := 10) rfl) (ev_cn (n := 9)))) (fun hb => absurd hb (by decide)) fun _ H2 e2 => ?_
      refine s_ifN (et_test (M := M) (ev_eqN (ev_n (n := 10) rfl) (ev_cn (n := 10)))) (fun _ H3 e3 => ?_) (fun hb => absurd hb (by decide))
      have e := ((e0.trans e1).trans e2).trans e3
      have hM1 := hM.mono e
      have hv1 := Is.mono (hid_mono (M := M) e) hv
      refine s_retL k hM hL ok hn e (ev_o rfl) (ea_cons (ev_ixL (x := p) (ev_d rfl hv1) (ev_cn (n := 0)) rfl) (ea_cons (ev_ixL (x := q) (ev_d rfl hv1) (ev_cn (n := 1)) rfl) (ea_cons (ev_ixL (x := o) (ev_d rfl hv1) (ev_cn (n := 2)) rfl) ea_nil))) fun vs H9 e9 hvs => ?_
      obtain ⟨u1, u2, u3, rfl, q1, q2, q3⟩ := hvs.three
      obtain rfl := Is.nat q1
      obtain rfl := Is.nat q2
      obtain rfl := Is.nat q3
      exact ⟨p, q, o, rfl, rfl⟩
    · rename_i p o
      refine s_ifN (et_test (M := M) (ev_eqN (ev_n (n := 11) rfl) (ev_cn (n := 7)))) (fun hb => absurd hb (by decide)) fun _ H0 e0 => ?_
      refine s_ifN (et_test (M := M) (ev_eqN (ev_n (n := 11) rfl) (ev_cn (n := 8)))) (fun hb => absurd hb (by decide)) fun _ H1 e1 => ?_
      refine s_ifN (et_test (M := M) (ev_eqN (ev_n (n := 11) rfl) (ev_cn (n := 9)))) (fun hb => absurd hb (by decide)) fun _ H2 e2 => ?_
      refine s_ifN (et_test (M := M) (ev_eqN (ev_n (n := 11) rfl) (ev_cn (n := 10)))) (fun hb => absurd hb (by decide)) fun _ H3 e3 => ?_
      have e := ((e0.trans e1).trans e2).trans e3
      have hM1 := hM.mono e
      have hv1 := Is.mono (hid_mono (M := M) e) hv
      refine s_retL k hM hL ok hn e (ev_o rfl) (ea_cons (ev_ixL (x := p) (ev_d rfl hv1) (ev_cn (n := 0)) rfl) (ea_cons (ev_ixL (x := o) (ev_d rfl hv1) (ev_cn (n := 1)) rfl) ea_nil)) fun vs H9 e9 hvs => ?_
      obtain ⟨u1, u2, rfl, q1, q2⟩ := hvs.two
      obtain rfl := Is.nat q1
      obtain rfl := Is.nat q2
      exact ⟨p, o, rfl, rfl⟩
theorem ok_answer_of_map_call {f : Addr} {fd : FuncData} (F : Fun K "answer_of_map_call" "answer_of_map_call" s_answer_of_map_call f fd) (T : Txt K mg CC CI CL WN) (g_call_for_all : DefOk P w K mg base 5 "call_for_all" ["line", "p", "o"] (sp_call_for_all CC CI CL)) (g_call_back : DefOk P w K mg base 4 "call_back" ["line", "p", "o"] (sp_call_back CC CI CL)) (g_call_forward : DefOk P w K mg base 4 "call_forward" ["line", "p", "o"] (sp_call_forward CC CI CL)) : FnOk P w K mg base CX0 6 f fd ["line", "call", "given"] (sp_answer_of_map_call CC CI CL) := by
  refine F.ok sc_answer_of_map_call (fun vs H Q E h => ?_) (fun cdv A outer s H vs Q E hr h => ⟨_, (pss_cons (ps_if (pt_cmpR op_eq (pv 1) (pe_gI T.c_FORWARD rfl) (nomark _)) (pss_one (ps_ret (pe_callD g_call_forward (hr.mono (by decide)) rfl (pa_cons (pv 0) (pa_cons (pe_ix ix_list (pv 2) pe_int (fun _ _ => rfl)) (pa_cons (pe_ix ix_list (pv 2) pe_int (fun _ _ => rfl)) pa_nil)))))) pss_nil)
    (pss_cons (ps_if (pt_cmpR op_eq (pv 1) (pe_gI T.c_BACK rfl) (nomark _)) (pss_one (ps_ret (pe_callD g_call_back (hr.mono (by decide)) rfl (pa_cons (pv 0) (pa_cons (pe_ix ix_list (pv 2) pe_int (fun _ _ => rfl)) (pa_cons (pe_ix ix_list (pv 2) pe_int (fun _ _ => rfl)) pa_nil)))))) pss_nil)
    (pss_one (ps_ret (pe_callD g_call_for_all (hr.mono (by decide)) rfl (pa_cons (pv 0) (pa_cons (pe_ix ix_list (pv 2) pe_int (fun _ _ => rfl)) (pa_cons (pe_ix ix_list (pv 2) pe_int (fun _ _ => rfl)) pa_nil)))))))), ?_⟩)
  · obtain ⟨_, _, _, _, _, _, _, rfl, _, ⟨_, _, _, rfl, _⟩, _⟩ := h
    rfl
  · obtain ⟨M, ln, s, n, L, rest, kk, rfl, hM, ⟨c, v, given, rfl, hv, hz, hd, hc⟩, hL, ok, hn, k⟩ := h
    cases hd <;> first | exact absurd hc (by decide) | skip
    · rename_i p o
      refine s_ifN (et_test (M := M) (ev_eqN (ev_n (n := 12) rfl) (ev_cn (n := 12)))) (fun _ H0 e0 => ?_) (fun hb => absurd hb (by decide))
      have e := e0
      have hM1 := hM.mono e
      have hv1 := Is.mono (hid_mono (M := M) e) hv
      refine s_retL k hM hL ok hn e (ev_o rfl) (ea_cons (ev_ixL (x := p) (ev_d rfl hv1) (ev_cn (n := 0)) rfl) (ea_cons (ev_ixL (x := o) (ev_d rfl hv1) (ev_cn (n := 1)) rfl) ea_nil)) fun vs H9 e9 hvs => ?_
      obtain ⟨u1, u2, rfl, q1, q2⟩ := hvs.two
      obtain rfl := Is.nat q1
      obtain rfl := Is.nat q2
      exact ⟨p, o, rfl, rfl⟩
    · rename_i p o
      refine s_ifN (et_test (M := M) (ev_eqN (ev_n (n := 13) rfl) (ev_cn (n := 12)))) (fun hb => absurd hb (by decide)) fun _ H0 e0 => ?_
      refine s_ifN (et_test (M := M) (ev_eqN (ev_n (n := 13) rfl) (ev_cn (n := 13)))) (fun _ H1 e1 => ?_) (fun hb => absurd hb (by decide))
      have e := e0.trans e1
      have hM1 := hM.mono e
      have hv1 := Is.mono (hid_mono (M := M) e) hv
      refine s_retL k hM hL ok hn e (ev_o rfl) (ea_cons (ev_ixL (x := p) (ev_d rfl hv1) (ev_cn (n := 0)) rfl) (ea_cons (ev_ixL (x := o) (ev_d rfl hv1) (ev_cn (n := 1)) rfl) ea_nil)) fun vs H9 e9 hvs => ?_
      obtain ⟨u1, u2, rfl, q1, q2⟩ := hvs.two
      obtain rfl := Is.nat q1
      obtain rfl := Is.nat q2
      exact ⟨p, o, rfl, rfl⟩
    · rename_i p o
      refine s_ifN (et_test (M := M) (ev_eqN (ev_n (n := 14) rfl) (ev_cn (n := 12)))) (fun hb => absurd hb (by decide)) fun _ H0 e0 => ?_
      refine s_ifN (et_test (M := M) (ev_eqN (ev_n (n := 14) rfl) (ev_cn (n := 13)))) (fun hb => absurd hb (by decide)) fun _ H1 e1 => ?_
      have e := e0.trans e1
      have hM1 := hM.mono e
      have hv1 := Is.mono (hid_mono (M := M) e) hv
      refine s_retL k hM hL ok hn e (ev_o rfl) (ea_cons (ev_ixL (x := p) (ev_d rfl hv1) (ev_cn (n := 0)) rfl) (ea_cons (ev_ixL (x := o) (ev_d rfl hv1) (ev_cn (n := 1)) rfl) ea_nil)) fun vs H9 e9 hvs => ?_
      obtain ⟨u1, u2, rfl, q1, q2⟩ := hvs.two
      obtain rfl := Is.nat q1
      obtain rfl := Is.nat q2
      exact ⟨p, o, rfl, rfl⟩
theorem ok_answer_of_counting_call {f : Addr} {fd : FuncData} (F : Fun K "answer_of_counting_call" "answer_of_counting_call" s_answer_of_counting_call f fd) (T : Txt K mg CC CI CL WN) (g_call_sieves : DefOk P w K mg base 5 "call_sieves" ["line", "x"] (sp_call_sieves CC CI CL)) (g_call_nth : DefOk P w K mg base 7 "call_nth" ["line", "p", "k"] (sp_call_nth CC CI CL)) (g_call_count : DefOk P w K mg base 6 "call_count" ["line", "i"] (sp_call_count CC CI CL)) : FnOk P w K mg base CX0 8 f fd ["line", "call", "given"] (sp_answer_of_counting_call CC CI CL) := by
  refine F.ok sc_answer_of_counting_call (fun vs H Q E h => ?_) (fun cdv A outer s H vs Q E hr h => ⟨_, (pss_cons (ps_if (pt_cmpR op_eq (pv 1) (pe_gI T.c_COUNT rfl) (nomark _)) (pss_one (ps_ret (pe_callD g_call_count (hr.mono (by decide)) rfl (pa_cons (pv 0) (pa_cons (pe_ix ix_list (pv 2) pe_int (fun _ _ => rfl)) pa_nil))))) pss_nil)
    (pss_cons (ps_if (pt_cmpR op_eq (pv 1) (pe_gI T.c_NTH rfl) (nomark _)) (pss_one (ps_ret (pe_callD g_call_nth (hr.mono (by decide)) rfl (pa_cons (pv 0) (pa_cons (pe_ix ix_list (pv 2) pe_int (fun _ _ => rfl)) (pa_cons (pe_ix ix_list (pv 2) pe_int (fun _ _ => rfl)) pa_nil)))))) pss_nil)
    (pss_one (ps_ret (pe_callD g_call_sieves (hr.mono (by decide)) rfl (pa_cons (pv 0) (pa_cons (pe_ix ix_list (pv 2) pe_int (fun _ _ => rfl)) pa_nil))))))), ?_⟩)
  · obtain ⟨_, _, _, _, _, _, _, rfl, _, ⟨_, _, _, rfl, _⟩, _⟩ := h
    rfl
  · obtain ⟨M, ln, s, n, L, rest, kk, rfl, hM, ⟨c, v, given, rfl, hv, hz, hd, hc⟩, hL, ok, hn, k⟩ := h
    cases hd <;> first | exact absurd hc (by decide) | skip
    · rename_i i
      refine s_ifN (et_test (M := M) (ev_eqN (ev_n (n := 16) rfl) (ev_cn (n := 16)))) (fun _ H0 e0 => ?_) (fun hb => absurd hb (by decide))
      have e := e0
      have hM1 := hM.mono e
      have hv1 := Is.mono (hid_mono (M := M) e) hv
      refine s_retL k hM hL ok hn e (ev_o rfl) (ea_cons (ev_ixL (x := i) (ev_d rfl hv1) (ev_cn (n := 0)) rfl) ea_nil) fun vs H9 e9 hvs => ?_
      obtain ⟨u1, rfl, q1⟩ := hvs.one
      obtain rfl := Is.nat q1
      exact ⟨i, rfl, rfl⟩
    · rename_i p j
      refine s_ifN (et_test (M := M) (ev_eqN (ev_n (n := 17) rfl) (ev_cn (n := 16)))) (fun hb => absurd hb (by decide)) fun _ H0 e0 => ?_
      refine s_ifN (et_test (M := M) (ev_eqN (ev_n (n := 17) rfl) (ev_cn (n := 17)))) (fun _ H1 e1 => ?_) (fun hb => absurd hb (by decide))
      have e := e0.trans e1
      have hM1 := hM.mono e
      have hv1 := Is.mono (hid_mono (M := M) e) hv
      refine s_retL k hM hL ok hn e (ev_o rfl) (ea_cons (ev_ixL (x := p) (ev_d rfl hv1) (ev_cn (n := 0)) rfl) (ea_cons (ev_ixL (x := j) (ev_d rfl hv1) (ev_cn (n := 1)) rfl) ea_nil)) fun vs H9 e9 hvs => ?_
      obtain ⟨u1, u2, rfl, q1, q2⟩ := hvs.two
      obtain rfl := Is.nat q1
      obtain rfl := Is.nat q2
      exact ⟨p, j, rfl, rfl⟩
    · rename_i x
      refine s_ifN (et_test (M := M) (ev_eqN (ev_n (n := 19) rfl) (ev_cn (n := 16)))) (fun hb => absurd hb (by decide)) fun _ H0 e0 => ?_
      refine s_ifN (et_test (M := M) (ev_eqN (ev_n (n := 19) rfl) (ev_cn (n := 17)))) (fun hb => absurd hb (by decide)) fun _ H1 e1 => ?_
      have e := e0.trans e1
      have hM1 := hM.mono e
      have hv1 := Is.mono (hid_mono (M := M) e) hv
      refine s_retL k hM hL ok hn e (ev_o rfl) (ea_cons (ev_ixL (x := x) (ev_d rfl hv1) (ev_cn (n := 0)) rfl) ea_nil) fun vs H9 e9 hvs => ?_
      obtain ⟨u1, rfl, q1⟩ := hvs.one
      obtain rfl := Is.nat q1
      exact ⟨x, rfl, rfl⟩
theorem ok_answer_of_truth_call {f : Addr} {fd : FuncData} (F : Fun K "answer_of_truth_call" "answer_of_truth_call" s_answer_of_truth_call f fd) (T : Txt K mg CC CI CL WN) (g_call_shows : DefOk P w K mg base 2 "call_shows" ["line", "p"] (sp_call_shows CC CI CL)) (g_call_between : DefOk P w K mg base 7 "call_between" ["line", "p"] (sp_call_between CC CI CL)) (g_call_truth : DefOk P w K mg base 7 "call_truth" ["line", "p", "x", "r"] (sp_call_truth CC CI CL)) (g_call_within : DefOk P w K mg base 3 "call_within" ["line", "p", "q"] (sp_call_within CC CI CL)) : FnOk P w K mg base CX0 8 f fd ["line", "call", "given"] (sp_answer_of_truth_call CC CI CL) := by
  refine F.ok sc_answer_of_truth_call (fun vs H Q E h => ?_) (fun cdv A outer s H vs Q E hr h => ⟨_, (pss_cons (ps_if (pt_cmpR op_eq (pv 1) (pe_gI T.c_WITHIN rfl) (nomark _)) (pss_one (ps_ret (pe_callD g_call_within (hr.mono (by decide)) rfl (pa_cons (pv 0) (pa_cons (pe_ix ix_list (pv 2) pe_int (fun _ _ => rfl)) (pa_cons (pe_ix ix_list (pv 2) pe_int (fun _ _ => rfl)) pa_nil)))))) pss_nil)
    (pss_cons (ps_if (pt_cmpR op_eq (pv 1) (pe_gI T.c_TRUTH rfl) (nomark _)) (pss_one (ps_ret (pe_callD g_call_truth (hr.mono (by decide)) rfl (pa_cons (pv 0) (pa_cons (pe_ix ix_list (pv 2) pe_int (fun _ _ => rfl)) (pa_cons (pe_ix ix_list (pv 2) pe_int (fun _ _ => rfl)) (pa_cons (pe_ix ix_list (pv 2) pe_int (fun _ _ => rfl)) pa_nil))))))) pss_nil)
    (pss_cons (ps_if (pt_cmpR op_eq (pv 1) (pe_gI T.c_BETWEEN rfl) (nomark _)) (pss_one (ps_ret (pe_callD g_call_between (hr.mono (by decide)) rfl (pa_cons (pv 0) (pa_cons (pe_ix ix_list (pv 2) pe_int (fun _ _ => rfl)) pa_nil))))) pss_nil)
    (pss_one (ps_ret (pe_callD g_call_shows (hr.mono (by decide)) rfl (pa_cons (pv 0) (pa_cons (pe_ix ix_list (pv 2) pe_int (fun _ _ => rfl)) pa_nil)))))))), ?_⟩)
  · obtain ⟨_, _, _, _, _, _, _, rfl, _, ⟨_, _, _, rfl, _⟩, _⟩ := h
    rfl
  · obtain ⟨M, ln, s, n, L, rest, kk, rfl, hM, ⟨c, v, given, rfl, hv, hz, hd, hc⟩, hL, ok, hn, k⟩ := h
    cases hd <;> first | exact absurd hc (by decide) | skip
    · rename_i p q
      refine s_ifN (et_test (M := M) (ev_eqN (ev_n (n := 15) rfl) (ev_cn (n := 15)))) (fun _ H0 e0 => ?_) (fun hb => absurd hb (by decide))
      have e := e0
      have hM1 := hM.mono e
      have hv1 := Is.mono (hid_mono (M := M) e) hv
      refine s_retL k hM hL ok hn e (ev_o rfl) (ea_cons (ev_ixL (x := p) (ev_d rfl hv1) (ev_cn (n := 0)) rfl) (ea_cons (ev_ixL (x := q) (ev_d rfl hv1) (ev_cn (n := 1)) rfl) ea_nil)) fun vs H9 e9 hvs => ?_
      obtain ⟨u1, u2, rfl, q1, q2⟩ := hvs.two
      obtain rfl := Is.nat q1
      obtain rfl := Is.nat q2
      exact ⟨p, q, rfl, rfl⟩
    · rename_i p x r
      refine s_ifN (et_test (M := M) (ev_eqN (ev_n (n := 18) rfl) (ev_cn (n := 15)))) (fun hb => absurd hb (by decide)) fun _ H0 e0 => ?_
      refine s_ifN (et_test (M := M) (ev_eqN (ev_n (n := 18) rfl) (ev_cn (n := 18)))) (fun _ H1 e1 => ?_) (fun hb => absurd hb (by decide))
      have e := e0.trans e1
      have hM1 := hM.mono e
      have hv1 := Is.mono (hid_mono (M := M) e) hv
      refine s_retL k hM hL ok hn e (ev_o rfl) (ea_cons (ev_ixL (x := p) (ev_d rfl hv1) (ev_cn (n := 0)) rfl) (ea_cons (ev_ixL (x := x) (ev_d rfl hv1) (ev_cn (n := 1)) rfl) (ea_cons (ev_ixL (x := r) (ev_d rfl hv1) (ev_cn (n := 2)) rfl) ea_nil))) fun vs H9 e9 hvs => ?_
      obtain ⟨u1, u2, u3, rfl, q1, q2, q3⟩ := hvs.three
      obtain rfl := Is.nat q1
      obtain rfl := Is.nat q2
      obtain rfl := Is.nat q3
      exact ⟨p, x, r, rfl, rfl⟩
    · rename_i p
      refine s_ifN (et_test (M := M) (ev_eqN (ev_n (n := 20) rfl) (ev_cn (n := 15)))) (fun hb => absurd hb (by decide)) fun _ H0 e0 => ?_
      refine s_ifN (et_test (M := M) (ev_eqN (ev_n (n := 20) rfl) (ev_cn (n := 18)))) (fun hb => absurd hb (by decide)) fun _ H1 e1 => ?_
      refine s_ifN (et_test (M := M) (ev_eqN (ev_n (n := 20) rfl) (ev_cn (n := 20)))) (fun _ H2 e2 => ?_) (fun hb => absurd hb (by decide))
      have e := (e0.trans e1).trans e2
      have hM1 := hM.mono e
      have hv1 := Is.mono (hid_mono (M := M) e) hv
      refine s_retL k hM hL ok hn e (ev_o rfl) (ea_cons (ev_ixL (x := p) (ev_d rfl hv1) (ev_cn (n := 0)) rfl) ea_nil) fun vs H9 e9 hvs => ?_
      obtain ⟨u1, rfl, q1⟩ := hvs.one
      obtain rfl := Is.nat q1
      exact ⟨p, rfl, rfl⟩
    · rename_i p
      refine s_ifN (et_test (M := M) (ev_eqN (ev_n (n := 21) rfl) (ev_cn (n := 15)))) (fun hb => absurd hb (by decide)) fun _ H0 e0 => ?_
      refine s_ifN (et_test (M := M) (ev_eqN (ev_n (n := 21) rfl) (ev_cn (n := 18)))) (fun hb => absurd hb (by decide)) fun _ H1 e1 => ?_
      refine s_ifN (et_test (M := M) (ev_eqN (ev_n (n := 21) rfl) (ev_cn (n := 20)))) (fun hb => absurd hb (by decide)) fun _ H2 e2 => ?_
      have e := (e0.trans e1).trans e2
      have hM1 := hM.mono e
      have hv1 := Is.mono (hid_mono (M := M) e) hv
      refine s_retL k hM hL ok hn e (ev_o rfl) (ea_cons (ev_ixL (x := p) (ev_d rfl hv1) (ev_cn (n := 0)) rfl) ea_nil) fun vs H9 e9 hvs => ?_
      obtain ⟨u1, rfl, q1⟩ := hvs.one
      obtain rfl := Is.nat q1
      exact ⟨p, rfl, rfl⟩
theorem ok_answer_of {f : Addr} {fd : FuncData} (F : Fun K "answer_of" "answer_of" s_answer_of f fd) (T : Txt K mg CC CI CL WN) (g_answer_of_truth_call : DefOk P w K mg base 8 "answer_of_truth_call" ["line", "call", "given"] (sp_answer_of_truth_call CC CI CL)) (g_answer_of_counting_call : DefOk P w K mg base 8 "answer_of_counting_call" ["line", "call", "given"] (sp_answer_of_counting_call CC CI CL)) (g_answer_of_map_call : DefOk P w K mg base 6 "answer_of_map_call" ["line", "call", "given"] (sp_answer_of_map_call CC CI CL)) (g_answer_of_part_call : DefOk P w K mg base 8 "answer_of_part_call" ["line", "call", "given"] (sp_answer_of_part_call CC CI CL)) (g_answer_of_instance_call : DefOk P w K mg base 7 "answer_of_instance_call" ["line", "call", "given"] (sp_answer_of_instance_call CC CI CL)) (g_answer_of_category_call : DefOk P w K mg base 6 "answer_of_category_call" ["line", "call", "given"] (sp_answer_of_category_call CC CI CL)) : FnOk P w K mg base CX0 9 f fd ["line", "call", "given"] (sp_answer_of CC CI CL) := by
  refine F.ok sc_answer_of (fun vs H Q E h => ?_) (fun cdv A outer s H vs Q E hr h => ⟨_, (pss_cons (ps_if (pt_cmpR op_le (pv 1) (pe_gI T.c_MAKE rfl) (nomark _)) (pss_one (ps_ret (pe_callD g_answer_of_category_call (hr.mono (by decide)) rfl (pa_cons (pv 0) (pa_cons (pv 1) (pa_cons (pv 2) pa_nil)))))) pss_nil)
    (pss_cons (ps_if (pt_cmpR op_le (pv 1) (pe_gI T.c_WAY rfl) (nomark _)) (pss_one (ps_ret (pe_callD g_answer_of_instance_call (hr.mono (by decide)) rfl (pa_cons (pv 0) (pa_cons (pv 1) (pa_cons (pv 2) pa_nil)))))) pss_nil)
    (pss_cons (ps_if (pt_cmpR op_le (pv 1) (pe_gI T.c_NOT rfl) (nomark _)) (pss_one (ps_ret (pe_callD g_answer_of_part_call (hr.mono (by decide)) rfl (pa_cons (pv 0) (pa_cons (pv 1) (pa_cons (pv 2) pa_nil)))))) pss_nil)
    (pss_cons (ps_if (pt_cmpR op_le (pv 1) (pe_gI T.c_FOR_ALL rfl) (nomark _)) (pss_one (ps_ret (pe_callD g_answer_of_map_call (hr.mono (by decide)) rfl (pa_cons (pv 0) (pa_cons (pv 1) (pa_cons (pv 2) pa_nil)))))) pss_nil)
    (pss_cons (ps_if (PW.pt (pw_or (pt_cmpR op_eq (pv 1) (pe_gI T.c_COUNT rfl) (nomark _)) (pw_or (pt_cmpR op_eq (pv 1) (pe_gI T.c_NTH rfl) (nomark _)) (pw_or1 (pt_cmpR op_eq (pv 1) (pe_gI T.c_SIEVES rfl) (nomark _)))))) (pss_one (ps_ret (pe_callD g_answer_of_counting_call (hr.mono (by decide)) rfl (pa_cons (pv 0) (pa_cons (pv 1) (pa_cons (pv 2) pa_nil)))))) pss_nil)
    (pss_one (ps_ret (pe_callD g_answer_of_truth_call (hr.mono (by decide)) rfl (pa_cons (pv 0) (pa_cons (pv 1) (pa_cons (pv 2) pa_nil))))))))))), ?_⟩)
  · obtain ⟨_, _, _, _, _, _, _, rfl, _, ⟨_, _, _, rfl, _⟩, _⟩ := h
    rfl
  · obtain ⟨M, ln, s, n, L, rest, kk, rfl, hM, ⟨c, v, given, rfl, hv, hz, hd, _⟩, hL, ok, hn, k⟩ := h
    have fin : ∀ {Pc : Nat → Prop} {H' : Hp}, Same H H' → Pc c → tRet (tCall (SpL CC CI CL (DecArgs Pc)) [] E0 (tCons (tVar 0) (tCons (tVar 1) (tCons (tVar 2) tNil)))) { nx := fun _ H' => Q .non H', rt := Q } (L2.start ["line", "call", "given"] [.ref ln, .int c, v]) H' := fun {Pc H'} e hc => by
      refine s_retL k hM hL ok hn e (ev_o rfl) (ea_cons (ev_n rfl) (ea_cons (ev_d rfl (Is.mono (hid_mono (M := M) e) hv)) ea_nil)) fun vs H9 e9 hvs => ?_
      obtain ⟨u, w', rfl, q1, q2⟩ := hvs.two
      obtain rfl := Is.nat q1
      exact ⟨c, w', given, rfl, q2, hz, hd, hc⟩
    refine s_ifN (et_test (M := M) (ev_le (ev_n rfl) (ev_cn (n := 2)))) (fun hb H1 e1 => ?_) fun hb H1 e1 => ?_
    · exact fin e1 (of_decide_eq_true hb)
    · have c1 : ¬ c ≤ 2 := of_decide_eq_false hb
      refine s_ifN (et_test (M := M) (ev_le (ev_n rfl) (ev_cn (n := 6)))) (fun hb H2 e2 => ?_) fun hb H2 e2 => ?_
      · exact fin (e1.trans e2) ⟨c1, of_decide_eq_true hb⟩
      · have c2 : ¬ c ≤ 6 := of_decide_eq_false hb
        have e12 := e1.trans e2
        refine s_ifN (et_test (M := M) (ev_le (ev_n rfl) (ev_cn (n := 11)))) (fun hb H3 e3 => ?_) fun hb H3 e3 => ?_
        · exact fin (e12.trans e3) ⟨c2, of_decide_eq_true hb⟩
        · have c3 : ¬ c ≤ 11 := of_decide_eq_false hb
          have e13 := e12.trans e3
          refine s_ifN (et_test (M := M) (ev_le (ev_n rfl) (ev_cn (n := 14)))) (fun hb H4 e4 => ?_) fun hb H4 e4 => ?_
          · exact fin (e13.trans e4) ⟨c3, of_decide_eq_true hb⟩
          · have c4 : ¬ c ≤ 14 := of_decide_eq_false hb
            have e14 := e13.trans e4
            refine s_ifN (et_or (et_test (M := M) (ev_eqN (ev_n rfl) (ev_cn (n := 16)))) fun _ => et_or (et_test (M := M) (ev_eqN (ev_n rfl) (ev_cn (n := 17)))) fun _ => et_test (M := M) (ev_eqN (ev_n rfl) (ev_cn (n := 19)))) (fun hb H5 e5 => ?_) fun hb H5 e5 => ?_
            · have c5 : c = 16 ∨ c = 17 ∨ c = 19 := by simpa using hb
              exact fin (e14.trans e5) c5
            · have c5 : ¬ (c = 16 ∨ c = 17 ∨ c = 19) := by simpa using hb
              exact fin (e14.trans e5) ⟨c4, c5⟩
end
end Im

namespace Im
open PySem PySem.Spec PyProof.Rows L2
def Flat (c : Nat) (given : List Nat) : Prop := (c ≠ 7 → wnL[c]? = some given.length) ∧ (c = 7 → ∃ p nums, given = p :: nums.length :: nums ∧ nums.length ≤ 60)
inductive Runs : List Nat → Fc05.St → List Int → Prop
  | nil (s : Fc05.St) : Runs [] s []
  | cons {c : Nat} {given rest : List Nat} {k : Fc05.Call} {s : Fc05.St} {out : List Int} : Dec c given k → Flat c given → Runs rest (Fc05.step s k).1 out → Runs (c :: (given ++ rest)) s (((Fc05.step s k).2.length : Int) :: ((Fc05.step s k).2 ++ out))
def endOf (at_ c cnt : Nat) (w : Nat) : Nat := if c = 7 then at_ + 1 + w + 1 + cnt else at_ + 1 + w
def sp_end_of_call (K : PySem.W.Frag) (CC CI CL : Addr) : Sp := fun vs H Q _ => ∃ (a : Addr) (cs : List Nat) (at_ c w cnt : Nat), vs = [.ref a, .int at_] ∧ SqL K H a (nv cs) ∧ cs[at_]? = some c ∧ wnL[c]? = some w ∧ (c = 7 → cs[at_ + 1 + w]? = some cnt) ∧ Q (.int (endOf at_ c cnt w : Nat)) H
def sp_answers (K : PySem.W.Frag) (CC CI CL : Addr) : Sp := fun vs H Q _ => ∃ (a : Addr) (cs : List Nat) (out : List Int), vs = [.ref a] ∧ SqL K H a (nv cs) ∧ cs.length ≤ 2520 ∧ Runs cs Fc05.init out ∧ out.length ≤ 10000000 ∧ ∀ H' p, H' p = some (.lst (out.map V.int)) → Q (.ref p) H'
theorem dec_lt {c : Nat} {given : List Nat} {k : Fc05.Call} (h : Dec c given k) : c < 22 := by
  cases h <;> decide
theorem flat_len {c : Nat} {given : List Nat} {k : Fc05.Call} (hd : Dec c given k) (hf : Flat c given) : ∃ w, wnL[c]? = some w ∧ (c ≠ 7 → given.length = w) ∧ (c = 7 → ∃ p nums, given = p :: nums.length :: nums ∧ w = 1) ∧ given.length ≤ 100 := by
  by_cases q : c = 7
  · subst q
    obtain ⟨p, nums, h, h60⟩ := hf.2 rfl
    exact ⟨1, rfl, fun z => absurd rfl z, fun _ => ⟨p, nums, h, rfl⟩, by rw [h]; simp only [List.length_cons]; omega⟩
  · have hm := List.mem_of_getElem? (hf.1 q)
    have h4 : ∀ x ∈ wnL, x ≤ 4 := by decide
    exact ⟨given.length, hf.1 q, fun _ => rfl, fun z => absurd z q, by have := h4 _ hm; omega⟩
theorem stOk_init : StOk Fc05.init := by
  have ok := catOk_begin (n := 1) (by decide) (by decide)
  have io : InstOk (Fc05.begin_ 1) (Fc05.none_ (Fc05.begin_ 1)) := ⟨rfl, rfl, fun f h1 h2 => by
    have h3 : f < 1 := h2
    have h4 : 1 ≤ f := h1
    omega, by decide⟩
  refine ⟨ok, io, io, rfl, fun p q h => ?_, fun mp h => nomatch h⟩
  have hq : q = [] := by
    have : q ∈ (List.replicate 8 [] : List (List (Nat × Nat))) := List.mem_of_getElem? h
    exact List.eq_of_mem_replicate this
  subst hq
  unfold PartOk
  rw [List.filter_eq_nil_iff.mpr fun r _ => by simp]
theorem sq_on {K : PySem.W.Frag} {Hs H : Hp} {a : Addr} {xs : List V} (h : SqL K Hs a xs) (e : Hs a ≠ none → H a = Hs a) : SqL K H a xs := by
  rcases h with h | h
  · refine .inl ?_
    rcases h with h | ⟨o, h⟩
    · exact .inl (by rw [e (by rw [h]; exact fun z => nomatch z)]; exact h)
    · exact .inr ⟨o, by rw [e (by rw [h]; exact fun z => nomatch z)]; exact h⟩
  · exact .inr h
theorem nv_at {cs : List Nat} {i c : Nat} (h : cs[i]? = some c) : (nv cs)[i]? = some (.int (c : Nat)) := by
  rw [List.getElem?_map, h]
  rfl
section
variable {P : Program} {w : World} {K : PySem.W.Frag} {mg : Str → Option Value} {base : Heap} {CC CI CL WN : Addr}
theorem ok_end_of_call {f : Addr} {fd : FuncData} (F : Fun K "end_of_call" "end_of_call" s_end_of_call f fd) (T : Txt K mg CC CI CL WN) : FnOk P w K mg base CX0 1 f fd ["calls", "at"] (sp_end_of_call K CC CI CL) := by
  refine F.ok sc_end_of_call (fun vs H Q E h => ?_) (fun cdv A outer s H vs Q E hr h => ⟨_, (pss_cons (ps_set (i := 2) sc_end_of_call.nd rfl (Or.inl rfl) (pe_op op_add (pe_op op_add (pv 1) pe_int) (pe_ix ix_tup (pe_glob (v := .ref WN) rfl T.wnG rfl) (pe_ix ix_list (pv 0) (pv 1) (fun _ _ => rfl)) (fun _ _ => rfl))))
    (pss_cons (ps_if (pt_cmpR op_eq (pe_ix ix_list (pv 0) (pv 1) (fun _ _ => rfl)) (pe_gI T.c_PART rfl) (nomark _)) (pss_one (ps_set (i := 2) sc_end_of_call.nd rfl (Or.inl rfl) (pe_op op_add (pe_op op_add (pv 2) pe_int) (pe_ix ix_list (pv 0) (pv 2) (fun _ _ => rfl))))) pss_nil)
    (pss_one (ps_ret (pv 2))))), ?_⟩)
  · obtain ⟨_, _, _, _, _, _, rfl, _⟩ := h
    rfl
  · obtain ⟨a, cs, at_, c, w', cnt, rfl, hs, hc, hw, hp, k⟩ := h
    have hix : atI (nv cs) (at_ : Int) = some (.int (c : Nat)) := atI_nat (nv_at hc)
    have hwx : atI (wnL.map fun (n : Nat) => V.int n) (c : Int) = some (.int (w' : Nat)) := atI_nat (by rw [List.getElem?_map, hw]; rfl)
    refine ⟨.int at_, rfl, _, 1, rfl, rfl, .ref a, rfl, .int at_, rfl, a, _, _, _, rfl, rfl, hs, hix, WN, _, _, _, rfl, rfl, T.wnT H, hwx, _, _, rfl, rfl, ?_⟩
    refine ⟨.ref a, rfl, .int at_, rfl, a, _, _, _, rfl, rfl, hs, hix, rfl, _, rfl, ?_⟩
    have e7 : decide (V.int (c : Int) = V.int 7) = decide (c = 7) := decide_eq_decide.mpr ⟨fun z => by injection z with z; omega, fun z => by rw [z]; rfl⟩
    have e1 : ((at_ : Int) + 1 + (w' : Int)) = ((at_ + 1 + w' : Nat) : Int) := by omega
    rw [e7]
    by_cases q : c = 7
    · rw [decide_eq_true q]
      refine iteT ?_
      have hx2 : atI (nv cs) ((at_ : Int) + 1 + (w' : Int)) = some (.int (cnt : Nat)) := by
        rw [e1]
        exact atI_nat (nv_at (hp q))
      refine ⟨.int ((at_ : Int) + 1 + (w' : Int)), rfl, _, 1, rfl, rfl, .ref a, rfl, .int ((at_ : Int) + 1 + (w' : Int)), rfl, a, _, _, _, rfl, rfl, hs, hx2, _, _, rfl, rfl, ?_⟩
      refine ⟨_, rfl, ?_⟩
      have e2 : ((at_ : Int) + 1 + (w' : Int)) + 1 + (cnt : Int) = ((endOf at_ c cnt w' : Nat) : Int) := by
        unfold endOf
        rw [if_pos q]
        omega
      show Q (.int (((at_ : Int) + 1 + (w' : Int)) + 1 + (cnt : Int))) H
      rw [e2]
      exact k
    · rw [decide_eq_false q]
      refine iteF ?_
      refine ⟨_, rfl, ?_⟩
      have e2 : ((at_ : Int) + 1 + (w' : Int)) = ((endOf at_ c cnt w' : Nat) : Int) := by
        unfold endOf
        rw [if_neg q]
        omega
      show Q (.int ((at_ : Int) + 1 + (w' : Int))) H
      rw [e2]
      exact k
/-- between two turns of the loop -/
structure AnsI (CC CI CL : Addr) (K : PySem.W.Frag) (Hs : Hp) (M : Addr → Prop) (a ln tl : Addr) (cs : List Nat) (out : List Int) (at_ : Nat) (H : Hp) (s : Fc05.St) (n : Nat) (L : Lay) (done out' : List Int) : Prop where
  le : at_ ≤ cs.length
  nle : n ≤ at_
  al : Hs a ≠ none → H a = Hs a
  tl_ : H tl = some (.lst (done.map V.int))
  line : LineAt CC CI CL (hid M H) ln s n L
  ok : StOk s
  runs : Runs (cs.drop at_) s out'
  eq : done ++ out' = out
  tr : Tr M H
theorem ok_answers {f : Addr} {fd : FuncData} (F : Fun K "answers" "answers" s_answers f fd) (T : Txt K mg CC CI CL WN) (g_answer_of : DefOk P w K mg base 9 "answer_of" ["line", "call", "given"] (sp_answer_of CC CI CL)) (g_end_of_call : DefOk P w K mg base 1 "end_of_call" ["calls", "at"] (sp_end_of_call K CC CI CL)) (g_initLine : NewOk P w K mg base CL 5 ["self"] (sp_initLine CC CI CL)) : FnOk P w K mg base CX0 10 f fd ["calls"] (sp_answers K CC CI CL) := by
  refine F.ok sc_answers (fun vs H Q E h => ?_) (fun cdv A outer s H vs Q E hr h => ⟨_, (pss_cons (ps_set (i := 1) sc_answers.nd rfl (Or.inl rfl) (pe_makeD0 g_initLine (hr.mono (by decide)) rfl T.gCL))
    (pss_cons (ps_set (i := 2) sc_answers.nd rfl (Or.inl rfl) (pe_lst pa_nil))
    (pss_cons (ps_set (i := 3) sc_answers.nd rfl (Or.inl rfl) pe_int)
    (pss_cons (ps_while PassesOwn.never (pt_cmpR op_lt (pv 3) (pe_callB call_len_seq (by rfl) T.f_len PySem.boot_len (pa_cons (pv 0) pa_nil)) (nomark _)) (pss_cons (ps_set (i := 4) sc_answers.nd rfl (Or.inl rfl) (pe_callD g_end_of_call (hr.mono (by decide)) rfl (pa_cons (pv 0) (pa_cons (pv 3) pa_nil))))
    (pss_cons (ps_set (i := 5) sc_answers.nd rfl (Or.inl rfl) (pe_callD g_answer_of (hr.mono (by decide)) rfl (pa_cons (pv 1) (pa_cons (pe_ix ix_list (pv 0) (pv 3) (fun _ _ => rfl)) (pa_cons (pe_slice sl_list (pv 0) (po_some (pe_op op_add (pv 3) pe_int)) (po_some (pv 4))) pa_nil)))))
    (pss_cons (ps_expr (pe_bm PySem.F.plainAttrs_list PySem.F.slot_list_append PySem.F.type_list_append mt_append (pv 2) (pa_cons (pe_callB call_len_seq (by rfl) T.f_len PySem.boot_len (pa_cons (pv 5) pa_nil)) pa_nil)))
    (pss_cons (ps_expr (pe_bm PySem.F.plainAttrs_list PySem.F.slot_list_extend PySem.F.type_list_extend mt_extend (pv 2) (pa_cons (pv 5) pa_nil)))
    (pss_one (ps_set (i := 3) sc_answers.nd rfl (Or.inl rfl) (pv 4))))))))
    (pss_one (ps_ret (pv 2))))))), ?_⟩)
  · obtain ⟨_, _, _, rfl, _⟩ := h
    rfl
  · obtain ⟨a, cs, out, rfl, hs, hlen, hruns, hout, k⟩ := h
    intro ln dx nln ndx nex
    have fH : ∀ x o, H x = some o → (upd (upd H dx (.own ln)) ln (.ins CL dx [])) x = some o := fun x o h => by
      rw [upd_ne (ne_of_none h nln), upd_ne (ne_of_none h ndx)]
      exact h
    have trA : Tr (fun x => x = a ∧ H x ≠ none) (upd (upd H dx (.own ln)) ln (.ins CL dx [])) := fun x m z => by
      cases q : H x with
      | none => exact m.2 q
      | some o => rw [fH x o q] at z; cases z
    refine ⟨fun x => x = a ∧ H x ≠ none, ln, dx, rfl, upd_same, trA, fun z => z.2 nln, fun H1 L fr1 hL1 => ⟨rfl, ?_⟩⟩
    have fr01 : ∀ x o, H x = some o → H1 x = some o := fun x o h => fr1 x o (fH x o h) (ne_of_none h nln)
    refine s_newS fun tl htl => ?_
    refine s_asgS (M := M0) (P := .is 0) (ev_cn (n := 0)) fun v0 H2 e2 hv0 => ?_
    obtain rfl := Is.nat hv0
    have hL2 : LineAt CC CI CL (hid (also (fun x => x = a ∧ H x ≠ none) tl) H2) ln Fc05.init 0 L := by
      have : LineAt CC CI CL (hid (also (fun x => x = a ∧ H x ≠ none) tl) (upd H1 tl (.lst []))) ln Fc05.init 0 L := by
        rw [also_new htl]
        exact hL1
      exact this.mono (hid_mono e2)
    have al2 : H a ≠ none → H2 a = H a := fun h => by
      cases q : H a with
      | none => exact absurd q h
      | some o =>
        have h1 := fr01 a o q
        exact e2 _ _ (same_new htl _ _ h1)
    have mtl : (also (fun x => x = a ∧ H x ≠ none) tl) tl := also_self
    have init : AnsI CC CI CL K H (also (fun x => x = a ∧ H x ≠ none) tl) a ln tl cs out 0 H2 Fc05.init 0 L [] out := by
      refine ⟨Nat.zero_le _, Nat.le_refl _, al2, e2 _ _ upd_same, hL2, stOk_init, hruns, rfl, fun x m => ?_⟩
      rcases m with ⟨rfl, m⟩ | rfl
      · rw [al2 m]
        exact m
      · rw [e2 _ _ upd_same]
        exact fun z => nomatch z
    generalize hM : also (fun x => x = a ∧ H x ≠ none) tl = M at init hL2 mtl
    have ma : H a ≠ none → M a := fun h => by rw [← hM]; exact .inl ⟨rfl, h⟩
    refine ⟨fun m σ' H' => ∃ at_ s n L done out' y z, σ' = [some (.ref a), some (.ref ln), some (.ref tl), some (.int (at_ : Nat)), y, z] ∧ m = cs.length - at_ ∧ AnsI CC CI CL K H M a ln tl cs out at_ H' s n L done out', ⟨_, 0, _, _, _, _, _, _, _, rfl, rfl, init⟩, ?_⟩
    rintro m σ' H' ⟨at_, s, n, L, done, out', y, z, rfl, rfl, I⟩
    have sq := sq_on hs I.al
    refine ⟨.int at_, rfl, .ref a, rfl, a, _, rfl, .inl sq, (at_ : Int), (((nv cs).length : Nat) : Int), rfl, rfl, _, rfl, ?_⟩
    have et : decide ((at_ : Int) < (((nv cs).length : Nat) : Int)) = decide (at_ < cs.length) := decide_eq_decide.mpr (by rw [List.length_map]; omega)
    rw [et]
    by_cases hlt : at_ < cs.length
    · rw [decide_eq_true hlt]
      refine iteT ?_
      refine ⟨fun σ2 H2 => ∃ m', m' < cs.length - at_ ∧ ∃ at_ s n L done out' y z, σ2 = [some (.ref a), some (.ref ln), some (.ref tl), some (.int (at_ : Nat)), y, z] ∧ m' = cs.length - at_ ∧ AnsI CC CI CL K H M a ln tl cs out at_ H2 s n L done out', fun σ2 H2 h => h, ?_⟩
      -- the next call
      have hr := I.runs
      obtain ⟨c, given, rest, kk, out2, hdrop, hout', hdec, hflat, hrest⟩ : ∃ c given rest kk out2, cs.drop at_ = c :: (given ++ rest) ∧ out' = ((Fc05.step s kk).2.length : Int) :: ((Fc05.step s kk).2 ++ out2) ∧ Dec c given kk ∧ Flat c given ∧ Runs rest (Fc05.step s kk).1 out2 := by
        generalize hd : cs.drop at_ = dr at hr
        cases hr with
        | nil =>
          have := congrArg List.length hd
          rw [List.length_drop] at this
          simp at this
          omega
        | cons h1 h2 h3 => exact ⟨_, _, _, _, _, rfl, rfl, h1, h2, h3⟩
      have hget : ∀ i, cs[at_ + i]? = (c :: (given ++ rest))[i]? := fun i => by rw [← hdrop, List.getElem?_drop]
      have hc : cs[at_]? = some c := hget 0
      obtain ⟨w', hw, hw1, hw2, hg100⟩ := flat_len hdec hflat
      have hdl := congrArg List.length hdrop
      rw [List.length_drop, List.length_cons, List.length_append] at hdl
      obtain ⟨cnt, hcnt, hend⟩ : ∃ cnt, (c = 7 → cs[at_ + 1 + w']? = some cnt) ∧ endOf at_ c cnt w' = at_ + 1 + given.length := by
        by_cases q : c = 7
        · obtain ⟨p, nums, hg, rfl⟩ := hw2 q
          refine ⟨nums.length, fun _ => ?_, ?_⟩
          · rw [show at_ + 1 + 1 = at_ + 2 by omega, hget 2, hg]
            rfl
          · unfold endOf
            rw [if_pos q, hg]
            simp only [List.length_cons]
            omega
        · refine ⟨0, fun z => absurd z q, ?_⟩
          unfold endOf
          rw [if_neg q, hw1 q]
      -- end = end_of_call(calls, at)
      refine ⟨.ref a, rfl, .int at_, rfl, ?_⟩
      refine ⟨a, cs, at_, c, w', cnt, rfl, sq, hc, hw, hcnt, ?_⟩
      rw [hend]
      -- answer = answer_of(line, calls[at], calls[at + 1:end])
      refine ⟨.ref ln, rfl, .ref a, rfl, .int at_, rfl, a, _, _, _, rfl, rfl, sq, atI_nat (nv_at hc), .ref a, rfl, .int at_, rfl, (at_ : Int), 1, rfl, rfl, _, rfl, .int ((at_ + 1 + given.length : Nat) : Int), rfl, _, rfl, a, _, rfl, sq, fun q hq => ?_⟩
      have ecut : cutV (nv cs) (some ((at_ : Int) + 1)) (some ((at_ + 1 + given.length : Nat) : Int)) = nv given := by
        have e1 : ((at_ : Int) + 1) = ((at_ + 1 : Nat) : Int) := by omega
        rw [e1, cutV_nat (by omega) (by rw [List.length_map]; omega), nv, ← List.map_drop, ← List.map_take]
        refine congrArg _ ?_
        have e2 : cs.drop (at_ + 1) = given ++ rest := by
          rw [← List.drop_drop, hdrop]
          rfl
        rw [e2, show at_ + 1 + given.length - (at_ + 1) = given.length by omega, List.take_left]
      rw [ecut]
      have nq : ¬ M q := I.tr.new hq
      have hL3 : LineAt CC CI CL (hid M (upd H' q (.lst (nv given)))) ln s n L := I.line.mono (hid_mono (same_new hq))
      have tr3 : Tr M (upd H' q (.lst (nv given))) := I.tr.mono (same_new hq)
      refine ⟨M, ln, s, n, L, [.int c, .ref q], kk, rfl, tr3, ⟨c, .ref q, given, rfl, is_nv ?_, by omega, hdec, trivial⟩, hL3, I.ok, by have := I.nle; omega, fun u H4 L4 kp hL4 hu => ?_⟩
      · rw [hid_no nq]
        exact upd_same
      -- told.append(len(answer)); told.extend(answer)
      have htl3 : upd H' q (.lst (nv given)) tl = some (.lst (done.map V.int)) := same_new hq _ _ I.tl_
      have htl4 : H4 tl = some (.lst (done.map V.int)) := kp tl _ mtl htl3
      have al4 : H a ≠ none → H4 a = H a := fun h => by
        cases q1 : H a with
        | none => exact absurd q1 h
        | some o =>
          have h1 : H' a = some o := by rw [I.al h]; exact q1
          exact kp a o (ma h) (same_new hq _ _ h1)
      obtain ⟨b, vs, rfl, hb, hvs⟩ := Is.list hu
      obtain rfl := hvs.ints
      obtain ⟨nb, hb'⟩ := hid_some hb
      have nbt : b ≠ tl := fun z => nb (by rw [z]; exact mtl)
      have hlo : done.length + (1 + ((Fc05.step s kk).2.length + out2.length)) ≤ 10000000 := by
        have := congrArg List.length I.eq
        rw [hout', List.length_append, List.length_cons, List.length_append] at this
        omega
      refine ⟨.ref tl, rfl, .inl ⟨rfl, _, SqL.of htl4⟩, .ref b, rfl, b, _, rfl, .inl (SqL.of hb'), tl, _, .int (((Fc05.step s kk).2.map V.int).length : Nat), rfl, rfl, htl4, ?_, ?_⟩
      · rw [List.length_map]
        exact Nat.lt_of_le_of_lt (by omega) (by decide : 10000000 < sizeLine)
      refine ⟨.ref tl, rfl, .inl ⟨rfl, _, SqL.of upd_same⟩, .ref b, rfl, tl, b, _, _, rfl, rfl, upd_same, by rw [upd_ne nbt]; exact hb', ?_, ?_⟩
      · rw [List.length_append, List.length_map, List.length_singleton, List.length_map]
        exact Nat.le_trans (by omega) (by decide : 10000000 ≤ sizeLine)
      refine ⟨.int ((at_ + 1 + given.length : Nat) : Int), rfl, ?_⟩
      have hL5 : LineAt CC CI CL (hid M (upd (upd H4 tl (.lst (done.map V.int ++ [.int (((Fc05.step s kk).2.map V.int).length : Nat)]))) tl (.lst (done.map V.int ++ [.int (((Fc05.step s kk).2.map V.int).length : Nat)] ++ (Fc05.step s kk).2.map V.int)))) ln (Fc05.step s kk).1 (n + 1) L4 := by
        rw [hid_upd mtl, hid_upd mtl]
        exact hL4
      refine ⟨cs.length - (at_ + 1 + given.length), by omega, at_ + 1 + given.length, (Fc05.step s kk).1, n + 1, L4, done ++ ((Fc05.step s kk).2.length : Int) :: (Fc05.step s kk).2, out2, _, _, rfl, rfl, ⟨by omega, by have := I.nle; omega, fun h => ?_, ?_, hL5, stOk_step I.ok kk, ?_, ?_, ((kp.tr tr3).upd).upd⟩⟩
      · rw [upd_upd, upd_ne fun z => ?_]
        · exact al4 h
        · have h1 := al4 h
          rw [z] at h1
          rw [htl4] at h1
          have h2 := fr01 a
          cases q1 : H a with
          | none => exact h q1
          | some o =>
            have h3 := h2 o q1
            rw [z, htl] at h3
            cases h3
      · rw [upd_same, List.map_append, List.map_cons, List.length_map, List.append_assoc]
        rfl
      · have e2 : cs.drop (at_ + 1 + given.length) = rest := by
          rw [show at_ + 1 + given.length = at_ + (1 + given.length) by omega, ← List.drop_drop, hdrop, show 1 + given.length = given.length + 1 by omega, List.drop_succ_cons, List.drop_left]
        rw [e2]
        exact hrest
      · rw [← I.eq, hout', List.append_assoc]
        rfl
    · rw [decide_eq_false hlt]
      refine iteF ?_
      refine ⟨.ref tl, rfl, k H' tl ?_⟩
      have hat : at_ = cs.length := by have := I.le; omega
      have hr := I.runs
      rw [hat, List.drop_length] at hr
      cases hr
      have := I.eq
      rw [List.append_nil] at this
      rw [← this]
      exact I.tl_
end
end Im

namespace Im
/-! ### what is asked, and what is due, by the turns of the program -/
theorem nv_toNat {l : List Int} (h : ∀ x ∈ l, 0 ≤ x) : nv (l.map Int.toNat) = l.map L2.V.int := by
  unfold nv
  rw [List.map_map]
  refine List.map_congr_left fun x hx => ?_
  have := h x hx
  show L2.V.int ((x.toNat : Nat) : Int) = L2.V.int x
  rw [Int.toNat_of_nonneg this]
def OneCall (l : List Int) (t : List Int) (k : Fc05.Call) : Prop := ∃ (cn : Nat) (given : List Nat), l.map Int.toNat = cn :: (given ++ t.map Int.toNat) ∧ Dec cn given k ∧ Flat cn given
theorem call_plain {p : Int} {n : Nat} {r t : List Int} {c : List (List Int)} (hs : PyFc05.shape p = some (n, 0)) (h : PyFlat.call PyFc05.shape (p :: r) = some (c, t)) : ∃ xs, xs.length = n ∧ r = xs ++ t ∧ c = [p :: xs] := by
  unfold PyFlat.call at h
  dsimp only at h
  rw [hs] at h
  dsimp only at h
  split at h
  · cases h
  · rename_i hl
    unfold PyFlat.rows at h
    dsimp only at h
    have h' := Option.some.inj h
    refine ⟨r.take n, by rw [List.length_take]; omega, ?_, (congrArg (·.1) h').symm⟩
    have e : r.drop n = t := congrArg (·.2) h'
    rw [← e, List.take_append_drop]
theorem one_start {r t : List Int} {c : List (List Int)} {k : Fc05.Call} (h : PyFlat.call PyFc05.shape ((0 : Int) :: r) = some (c, t)) (hc : Fc05Neutral.callOf ((PyFc05.whole c).headD []) = some k) : OneCall ((0 : Int) :: r) t k := by
  obtain ⟨xs, hl, rfl, rfl⟩ := call_plain (n := 1) rfl h
  match xs, hl with
  | [x0], _ =>
    have h1 : (if Fc05Neutral.nats [x0] = true then some (Fc05.Call.start x0.toNat) else none) = some k := hc
    split at h1
    · obtain rfl := Option.some.inj h1
      exact ⟨0, [x0.toNat], rfl, .start _, fun _ => rfl, fun z => nomatch z⟩
    · cases h1
theorem one_arrow {r t : List Int} {c : List (List Int)} {k : Fc05.Call} (h : PyFlat.call PyFc05.shape ((1 : Int) :: r) = some (c, t)) (hc : Fc05Neutral.callOf ((PyFc05.whole c).headD []) = some k) : OneCall ((1 : Int) :: r) t k := by
  obtain ⟨xs, hl, rfl, rfl⟩ := call_plain (n := 2) rfl h
  match xs, hl with
  | [x0, x1], _ =>
    have h1 : (if Fc05Neutral.nats [x0, x1] = true then some (Fc05.Call.arrow x0.toNat x1.toNat) else none) = some k := hc
    split at h1
    · obtain rfl := Option.some.inj h1
      exact ⟨1, [x0.toNat, x1.toNat], rfl, .arrow _ _, fun _ => rfl, fun z => nomatch z⟩
    · cases h1
theorem one_make {r t : List Int} {c : List (List Int)} {k : Fc05.Call} (h : PyFlat.call PyFc05.shape ((2 : Int) :: r) = some (c, t)) (hc : Fc05Neutral.callOf ((PyFc05.whole c).headD []) = some k) : OneCall ((2 : Int) :: r) t k := by
  obtain ⟨xs, hl, rfl, rfl⟩ := call_plain (n := 3) rfl h
  match xs, hl with
  | [x0, x1, x2], _ =>
    have h1 : (if Fc05Neutral.nats [x0, x1, x2] = true then some (Fc05.Call.make x0.toNat x1.toNat x2.toNat) else none) = some k := hc
    split at h1
    · obtain rfl := Option.some.inj h1
      exact ⟨2, [x0.toNat, x1.toNat, x2.toNat], rfl, .make _ _ _, fun _ => rfl, fun z => nomatch z⟩
    · cases h1
theorem one_rows {r t : List Int} {c : List (List Int)} {k : Fc05.Call} (h : PyFlat.call PyFc05.shape ((3 : Int) :: r) = some (c, t)) (hc : Fc05Neutral.callOf ((PyFc05.whole c).headD []) = some k) : OneCall ((3 : Int) :: r) t k := by
  obtain ⟨xs, hl, rfl, rfl⟩ := call_plain (n := 3) rfl h
  match xs, hl with
  | [x0, x1, x2], _ =>
    have h1 : (if Fc05Neutral.nats [x0, x1, x2] = true then some (Fc05.Call.rows x0.toNat x1.toNat x2.toNat) else none) = some k := hc
    split at h1
    · obtain rfl := Option.some.inj h1
      exact ⟨3, [x0.toNat, x1.toNat, x2.toNat], rfl, .rows _ _ _, fun _ => rfl, fun z => nomatch z⟩
    · cases h1
theorem one_set {r t : List Int} {c : List (List Int)} {k : Fc05.Call} (h : PyFlat.call PyFc05.shape ((4 : Int) :: r) = some (c, t)) (hc : Fc05Neutral.callOf ((PyFc05.whole c).headD []) = some k) : OneCall ((4 : Int) :: r) t k := by
  obtain ⟨xs, hl, rfl, rfl⟩ := call_plain (n := 4) rfl h
  match xs, hl with
  | [x0, x1, x2, x3], _ =>
    have h1 : (if Fc05Neutral.nats [x0, x1, x2, x3] = true then some (Fc05.Call.set x0.toNat x1.toNat x2.toNat x3.toNat) else none) = some k := hc
    split at h1
    · obtain rfl := Option.some.inj h1
      exact ⟨4, [x0.toNat, x1.toNat, x2.toNat, x3.toNat], rfl, .set _ _ _ _, fun _ => rfl, fun z => nomatch z⟩
    · cases h1
theorem one_check {r t : List Int} {c : List (List Int)} {k : Fc05.Call} (h : PyFlat.call PyFc05.shape ((5 : Int) :: r) = some (c, t)) (hc : Fc05Neutral.callOf ((PyFc05.whole c).headD []) = some k) : OneCall ((5 : Int) :: r) t k := by
  obtain ⟨xs, hl, rfl, rfl⟩ := call_plain (n := 1) rfl h
  match xs, hl with
  | [x0], _ =>
    have h1 : (if Fc05Neutral.nats [x0] = true then some (Fc05.Call.check x0.toNat) else none) = some k := hc
    split at h1
    · obtain rfl := Option.some.inj h1
      exact ⟨5, [x0.toNat], rfl, .check _, fun _ => rfl, fun z => nomatch z⟩
    · cases h1
theorem one_way {r t : List Int} {c : List (List Int)} {k : Fc05.Call} (h : PyFlat.call PyFc05.shape ((6 : Int) :: r) = some (c, t)) (hc : Fc05Neutral.callOf ((PyFc05.whole c).headD []) = some k) : OneCall ((6 : Int) :: r) t k := by
  obtain ⟨xs, hl, rfl, rfl⟩ := call_plain (n := 1) rfl h
  match xs, hl with
  | [x0], _ =>
    have h1 : (if Fc05Neutral.nats [x0] = true then some (Fc05.Call.way x0.toNat) else none) = some k := hc
    split at h1
    · obtain rfl := Option.some.inj h1
      exact ⟨6, [x0.toNat], rfl, .way _, fun _ => rfl, fun z => nomatch z⟩
    · cases h1
theorem one_meet {r t : List Int} {c : List (List Int)} {k : Fc05.Call} (h : PyFlat.call PyFc05.shape ((8 : Int) :: r) = some (c, t)) (hc : Fc05Neutral.callOf ((PyFc05.whole c).headD []) = some k) : OneCall ((8 : Int) :: r) t k := by
  obtain ⟨xs, hl, rfl, rfl⟩ := call_plain (n := 3) rfl h
  match xs, hl with
  | [x0, x1, x2], _ =>
    have h1 : (if Fc05Neutral.nats [x0, x1, x2] = true then some (Fc05.Call.meet x0.toNat x1.toNat x2.toNat) else none) = some k := hc
    split at h1
    · obtain rfl := Option.some.inj h1
      exact ⟨8, [x0.toNat, x1.toNat, x2.toNat], rfl, .meet _ _ _, fun _ => rfl, fun z => nomatch z⟩
    · cases h1
theorem one_join {r t : List Int} {c : List (List Int)} {k : Fc05.Call} (h : PyFlat.call PyFc05.shape ((9 : Int) :: r) = some (c, t)) (hc : Fc05Neutral.callOf ((PyFc05.whole c).headD []) = some k) : OneCall ((9 : Int) :: r) t k := by
  obtain ⟨xs, hl, rfl, rfl⟩ := call_plain (n := 3) rfl h
  match xs, hl with
  | [x0, x1, x2], _ =>
    have h1 : (if Fc05Neutral.nats [x0, x1, x2] = true then some (Fc05.Call.join x0.toNat x1.toNat x2.toNat) else none) = some k := hc
    split at h1
    · obtain rfl := Option.some.inj h1
      exact ⟨9, [x0.toNat, x1.toNat, x2.toNat], rfl, .join _ _ _, fun _ => rfl, fun z => nomatch z⟩
    · cases h1
theorem one_implies {r t : List Int} {c : List (List Int)} {k : Fc05.Call} (h : PyFlat.call PyFc05.shape ((10 : Int) :: r) = some (c, t)) (hc : Fc05Neutral.callOf ((PyFc05.whole c).headD []) = some k) : OneCall ((10 : Int) :: r) t k := by
  obtain ⟨xs, hl, rfl, rfl⟩ := call_plain (n := 3) rfl h
  match xs, hl with
  | [x0, x1, x2], _ =>
    have h1 : (if Fc05Neutral.nats [x0, x1, x2] = true then some (Fc05.Call.implies x0.toNat x1.toNat x2.toNat) else none) = some k := hc
    split at h1
    · obtain rfl := Option.some.inj h1
      exact ⟨10, [x0.toNat, x1.toNat, x2.toNat], rfl, .implies _ _ _, fun _ => rfl, fun z => nomatch z⟩
    · cases h1
theorem one_not_ {r t : List Int} {c : List (List Int)} {k : Fc05.Call} (h : PyFlat.call PyFc05.shape ((11 : Int) :: r) = some (c, t)) (hc : Fc05Neutral.callOf ((PyFc05.whole c).headD []) = some k) : OneCall ((11 : Int) :: r) t k := by
  obtain ⟨xs, hl, rfl, rfl⟩ := call_plain (n := 2) rfl h
  match xs, hl with
  | [x0, x1], _ =>
    have h1 : (if Fc05Neutral.nats [x0, x1] = true then some (Fc05.Call.not_ x0.toNat x1.toNat) else none) = some k := hc
    split at h1
    · obtain rfl := Option.some.inj h1
      exact ⟨11, [x0.toNat, x1.toNat], rfl, .not_ _ _, fun _ => rfl, fun z => nomatch z⟩
    · cases h1
theorem one_forward {r t : List Int} {c : List (List Int)} {k : Fc05.Call} (h : PyFlat.call PyFc05.shape ((12 : Int) :: r) = some (c, t)) (hc : Fc05Neutral.callOf ((PyFc05.whole c).headD []) = some k) : OneCall ((12 : Int) :: r) t k := by
  obtain ⟨xs, hl, rfl, rfl⟩ := call_plain (n := 2) rfl h
  match xs, hl with
  | [x0, x1], _ =>
    have h1 : (if Fc05Neutral.nats [x0, x1] = true then some (Fc05.Call.forward x0.toNat x1.toNat) else none) = some k := hc
    split at h1
    · obtain rfl := Option.some.inj h1
      exact ⟨12, [x0.toNat, x1.toNat], rfl, .forward _ _, fun _ => rfl, fun z => nomatch z⟩
    · cases h1
theorem one_back {r t : List Int} {c : List (List Int)} {k : Fc05.Call} (h : PyFlat.call PyFc05.shape ((13 : Int) :: r) = some (c, t)) (hc : Fc05Neutral.callOf ((PyFc05.whole c).headD []) = some k) : OneCall ((13 : Int) :: r) t k := by
  obtain ⟨xs, hl, rfl, rfl⟩ := call_plain (n := 2) rfl h
  match xs, hl with
  | [x0, x1], _ =>
    have h1 : (if Fc05Neutral.nats [x0, x1] = true then some (Fc05.Call.back x0.toNat x1.toNat) else none) = some k := hc
    split at h1
    · obtain rfl := Option.some.inj h1
      exact ⟨13, [x0.toNat, x1.toNat], rfl, .back _ _, fun _ => rfl, fun z => nomatch z⟩
    · cases h1
theorem one_forAll {r t : List Int} {c : List (List Int)} {k : Fc05.Call} (h : PyFlat.call PyFc05.shape ((14 : Int) :: r) = some (c, t)) (hc : Fc05Neutral.callOf ((PyFc05.whole c).headD []) = some k) : OneCall ((14 : Int) :: r) t k := by
  obtain ⟨xs, hl, rfl, rfl⟩ := call_plain (n := 2) rfl h
  match xs, hl with
  | [x0, x1], _ =>
    have h1 : (if Fc05Neutral.nats [x0, x1] = true then some (Fc05.Call.forAll x0.toNat x1.toNat) else none) = some k := hc
    split at h1
    · obtain rfl := Option.some.inj h1
      exact ⟨14, [x0.toNat, x1.toNat], rfl, .forAll _ _, fun _ => rfl, fun z => nomatch z⟩
    · cases h1
theorem one_within {r t : List Int} {c : List (List Int)} {k : Fc05.Call} (h : PyFlat.call PyFc05.shape ((15 : Int) :: r) = some (c, t)) (hc : Fc05Neutral.callOf ((PyFc05.whole c).headD []) = some k) : OneCall ((15 : Int) :: r) t k := by
  obtain ⟨xs, hl, rfl, rfl⟩ := call_plain (n := 2) rfl h
  match xs, hl with
  | [x0, x1], _ =>
    have h1 : (if Fc05Neutral.nats [x0, x1] = true then some (Fc05.Call.within x0.toNat x1.toNat) else none) = some k := hc
    split at h1
    · obtain rfl := Option.some.inj h1
      exact ⟨15, [x0.toNat, x1.toNat], rfl, .within _ _, fun _ => rfl, fun z => nomatch z⟩
    · cases h1
theorem one_count {r t : List Int} {c : List (List Int)} {k : Fc05.Call} (h : PyFlat.call PyFc05.shape ((16 : Int) :: r) = some (c, t)) (hc : Fc05Neutral.callOf ((PyFc05.whole c).headD []) = some k) : OneCall ((16 : Int) :: r) t k := by
  obtain ⟨xs, hl, rfl, rfl⟩ := call_plain (n := 1) rfl h
  match xs, hl with
  | [x0], _ =>
    have h1 : (if Fc05Neutral.nats [x0] = true then some (Fc05.Call.count x0.toNat) else none) = some k := hc
    split at h1
    · obtain rfl := Option.some.inj h1
      exact ⟨16, [x0.toNat], rfl, .count _, fun _ => rfl, fun z => nomatch z⟩
    · cases h1
theorem one_nth {r t : List Int} {c : List (List Int)} {k : Fc05.Call} (h : PyFlat.call PyFc05.shape ((17 : Int) :: r) = some (c, t)) (hc : Fc05Neutral.callOf ((PyFc05.whole c).headD []) = some k) : OneCall ((17 : Int) :: r) t k := by
  obtain ⟨xs, hl, rfl, rfl⟩ := call_plain (n := 2) rfl h
  match xs, hl with
  | [x0, x1], _ =>
    have h1 : (if Fc05Neutral.nats [x0, x1] = true then some (Fc05.Call.nth x0.toNat x1.toNat) else none) = some k := hc
    split at h1
    · obtain rfl := Option.some.inj h1
      exact ⟨17, [x0.toNat, x1.toNat], rfl, .nth _ _, fun _ => rfl, fun z => nomatch z⟩
    · cases h1
theorem one_truth {r t : List Int} {c : List (List Int)} {k : Fc05.Call} (h : PyFlat.call PyFc05.shape ((18 : Int) :: r) = some (c, t)) (hc : Fc05Neutral.callOf ((PyFc05.whole c).headD []) = some k) : OneCall ((18 : Int) :: r) t k := by
  obtain ⟨xs, hl, rfl, rfl⟩ := call_plain (n := 3) rfl h
  match xs, hl with
  | [x0, x1, x2], _ =>
    have h1 : (if Fc05Neutral.nats [x0, x1, x2] = true then some (Fc05.Call.truth x0.toNat x1.toNat x2.toNat) else none) = some k := hc
    split at h1
    · obtain rfl := Option.some.inj h1
      exact ⟨18, [x0.toNat, x1.toNat, x2.toNat], rfl, .truth _ _ _, fun _ => rfl, fun z => nomatch z⟩
    · cases h1
theorem one_sieves {r t : List Int} {c : List (List Int)} {k : Fc05.Call} (h : PyFlat.call PyFc05.shape ((19 : Int) :: r) = some (c, t)) (hc : Fc05Neutral.callOf ((PyFc05.whole c).headD []) = some k) : OneCall ((19 : Int) :: r) t k := by
  obtain ⟨xs, hl, rfl, rfl⟩ := call_plain (n := 1) rfl h
  match xs, hl with
  | [x0], _ =>
    have h1 : (if Fc05Neutral.nats [x0] = true then some (Fc05.Call.sieves x0.toNat) else none) = some k := hc
    split at h1
    · obtain rfl := Option.some.inj h1
      exact ⟨19, [x0.toNat], rfl, .sieves _, fun _ => rfl, fun z => nomatch z⟩
    · cases h1
theorem one_decided {r t : List Int} {c : List (List Int)} {k : Fc05.Call} (h : PyFlat.call PyFc05.shape ((20 : Int) :: r) = some (c, t)) (hc : Fc05Neutral.callOf ((PyFc05.whole c).headD []) = some k) : OneCall ((20 : Int) :: r) t k := by
  obtain ⟨xs, hl, rfl, rfl⟩ := call_plain (n := 1) rfl h
  match xs, hl with
  | [x0], _ =>
    have h1 : (if Fc05Neutral.nats [x0] = true then some (Fc05.Call.decided x0.toNat) else none) = some k := hc
    split at h1
    · obtain rfl := Option.some.inj h1
      exact ⟨20, [x0.toNat], rfl, .decided _, fun _ => rfl, fun z => nomatch z⟩
    · cases h1
theorem one_shows {r t : List Int} {c : List (List Int)} {k : Fc05.Call} (h : PyFlat.call PyFc05.shape ((21 : Int) :: r) = some (c, t)) (hc : Fc05Neutral.callOf ((PyFc05.whole c).headD []) = some k) : OneCall ((21 : Int) :: r) t k := by
  obtain ⟨xs, hl, rfl, rfl⟩ := call_plain (n := 1) rfl h
  match xs, hl with
  | [x0], _ =>
    have h1 : (if Fc05Neutral.nats [x0] = true then some (Fc05.Call.shows x0.toNat) else none) = some k := hc
    split at h1
    · obtain rfl := Option.some.inj h1
      exact ⟨21, [x0.toNat], rfl, .shows _, fun _ => rfl, fun z => nomatch z⟩
    · cases h1
theorem one_part {r t : List Int} {c : List (List Int)} {k : Fc05.Call} (h : PyFlat.call PyFc05.shape ((7 : Int) :: r) = some (c, t)) (hb : PyInside.call PyFc05.bound c = true) (hc : Fc05Neutral.callOf ((PyFc05.whole c).headD []) = some k) : OneCall ((7 : Int) :: r) t k := by
  unfold PyFlat.call at h
  dsimp only at h
  have hs : PyFc05.shape 7 = some (1, 1) := rfl
  rw [hs] at h
  dsimp only at h
  match r, h with
  | [], h => cases h
  | [x], h => cases h
  | x :: n :: r, h =>
    rw [if_neg (by show ¬ (r.length + 1 + 1 < 1); omega)] at h
    have e1 : (x :: n :: r).drop 1 = n :: r := rfl
    rw [e1] at h
    simp only [PyFlat.rows, PyFlat.row] at h
    by_cases q : 0 ≤ n ∧ n.toNat ≤ r.length
    · rw [if_pos q] at h
      dsimp only at h
      have h' := Option.some.inj h
      have e2 : c = [[7, x], r.take n.toNat] := (congrArg (·.1) h').symm
      have e3 : t = r.drop n.toNat := (congrArg (·.2) h').symm
      subst e2
      subst e3
      have hl : (r.take n.toNat).length = n.toNat := by rw [List.length_take]; omega
      have h60 : (r.take n.toNat).length ≤ 60 := by
        have h1 : (PyInside.each [(0, 4294967295)] [x] && PyInside.lists [(0, 4294967295, 0, 60)] [r.take n.toNat]) = true := hb
        rw [Bool.and_eq_true] at h1
        have h2 : (decide (0 ≤ (r.take n.toNat).length) && decide ((r.take n.toNat).length ≤ 60) && (r.take n.toNat).all (PyInside.within 0 4294967295) && PyInside.lists [] []) = true := h1.2
        rw [Bool.and_eq_true, Bool.and_eq_true, Bool.and_eq_true] at h2
        exact of_decide_eq_true h2.1.1.2
      have h1 : (if Fc05Neutral.nat x = true ∧ Fc05Neutral.nats (r.take n.toNat) = true then (Fc05Neutral.pairsIn ((r.take n.toNat).map Int.toNat)).map (Fc05.Call.part x.toNat) else none) = some k := hc
      split at h1
      · obtain ⟨l, h3, rfl⟩ := Option.map_eq_some_iff.mp h1
        refine ⟨7, x.toNat :: n.toNat :: (r.take n.toNat).map Int.toNat, ?_, .part _ _ _ _ h3, fun z => absurd rfl z, fun _ => ⟨x.toNat, (r.take n.toNat).map Int.toNat, ?_, ?_⟩⟩
        · show (7 : Nat) :: x.toNat :: n.toNat :: r.map Int.toNat = 7 :: x.toNat :: n.toNat :: ((r.take n.toNat).map Int.toNat ++ (r.drop n.toNat).map Int.toNat)
          rw [← List.map_append, List.take_append_drop]
        · rw [List.length_map, hl]
        · rw [List.length_map]
          exact h60
      · cases h1
    · rw [if_neg q] at h
      cases h
theorem one_call {p : Int} {r t : List Int} {c : List (List Int)} {k : Fc05.Call} (h : PyFlat.call PyFc05.shape (p :: r) = some (c, t)) (hb : PyInside.call PyFc05.bound c = true) (hc : Fc05Neutral.callOf ((PyFc05.whole c).headD []) = some k) : OneCall (p :: r) t k := by
  by_cases e0 : p = 0
  · subst e0
    exact one_start h hc
  by_cases e1 : p = 1
  · subst e1
    exact one_arrow h hc
  by_cases e2 : p = 2
  · subst e2
    exact one_make h hc
  by_cases e3 : p = 3
  · subst e3
    exact one_rows h hc
  by_cases e4 : p = 4
  · subst e4
    exact one_set h hc
  by_cases e5 : p = 5
  · subst e5
    exact one_check h hc
  by_cases e6 : p = 6
  · subst e6
    exact one_way h hc
  by_cases e7 : p = 7
  · subst e7
    exact one_part h hb hc
  by_cases e8 : p = 8
  · subst e8
    exact one_meet h hc
  by_cases e9 : p = 9
  · subst e9
    exact one_join h hc
  by_cases e10 : p = 10
  · subst e10
    exact one_implies h hc
  by_cases e11 : p = 11
  · subst e11
    exact one_not_ h hc
  by_cases e12 : p = 12
  · subst e12
    exact one_forward h hc
  by_cases e13 : p = 13
  · subst e13
    exact one_back h hc
  by_cases e14 : p = 14
  · subst e14
    exact one_forAll h hc
  by_cases e15 : p = 15
  · subst e15
    exact one_within h hc
  by_cases e16 : p = 16
  · subst e16
    exact one_count h hc
  by_cases e17 : p = 17
  · subst e17
    exact one_nth h hc
  by_cases e18 : p = 18
  · subst e18
    exact one_truth h hc
  by_cases e19 : p = 19
  · subst e19
    exact one_sieves h hc
  by_cases e20 : p = 20
  · subst e20
    exact one_decided h hc
  by_cases e21 : p = 21
  · subst e21
    exact one_shows h hc
  exfalso
  have hs : PyFc05.shape p = none := by
    unfold PyFc05.shape
    rw [if_neg e0, if_neg e1, if_neg e2, if_neg e3, if_neg e4, if_neg e5, if_neg e6, if_neg e7, if_neg e8, if_neg e9, if_neg e10, if_neg e11, if_neg e12, if_neg e13, if_neg e14, if_neg e15, if_neg e16, if_neg e17, if_neg e18, if_neg e19, if_neg e20, if_neg e21]
  unfold PyFlat.call at h
  dsimp only at h
  rw [hs] at h
  cases h
theorem call_end {p : Int} {r t : List Int} {c : List (List Int)} {k : Fc05.Call} (o : OneCall (p :: r) t k) : ∃ y, r.map Int.toNat = y ++ t.map Int.toNat := by
  obtain ⟨cn, given, e, _⟩ := o
  exact ⟨given, List.tail_eq_of_cons_eq e⟩
theorem runs_more : ∀ (f : Nat) (l : List Int) (raw : List (List (List Int))) (s : Fc05.St), PyFlat.calls PyFc05.shape f l = some raw → PyInside.calls PyFc05.bound raw = true → (∀ c ∈ raw, (Fc05Neutral.callOf ((PyFc05.whole c).headD [])).isSome = true) → Runs (l.map Int.toNat) s (PyFlat.told (PyFlat.played (fun s c => Fc05Neutral.step s (c.headD [])) s (raw.map PyFc05.whole)))
  | f, [], raw, s, h, hb, hc => by
    have h1 : PyFlat.calls PyFc05.shape f [] = some [] := by cases f <;> rfl
    obtain rfl : [] = raw := Option.some.inj (h1.symm.trans h)
    exact .nil s
  | 0, p :: r, raw, s, h, hb, hc => by cases h
  | f + 1, p :: r, raw, s, h, hb, hc => by
    unfold PyFlat.calls at h
    cases e : PyFlat.call PyFc05.shape (p :: r) with
    | none =>
      rw [e] at h
      cases h
    | some x =>
      obtain ⟨c, t⟩ := x
      rw [e] at h
      dsimp only at h
      cases e2 : PyFlat.calls PyFc05.shape f t with
      | none =>
        rw [e2] at h
        cases h
      | some cs =>
        rw [e2] at h
        obtain rfl : c :: cs = raw := Option.some.inj h
        have hb' : (PyInside.call PyFc05.bound c && cs.all (PyInside.call PyFc05.bound)) = true := hb
        rw [Bool.and_eq_true] at hb'
        obtain ⟨k, hk⟩ := Option.isSome_iff_exists.mp (hc c List.mem_cons_self)
        obtain ⟨cn, given, e3, hd, hf⟩ := one_call e hb'.1 hk
        have hs : Fc05Neutral.step s ((PyFc05.whole c).headD []) = ((Fc05.step s k).1, (Fc05.step s k).2) := by
          unfold Fc05Neutral.step
          rw [hk]
        have ih := runs_more f t cs (Fc05.step s k).1 e2 hb'.2 fun c' hc' => hc c' (List.mem_cons_of_mem _ hc')
        rw [e3]
        have e4 : PyFlat.told (PyFlat.played (fun s c => Fc05Neutral.step s (c.headD [])) s ((c :: cs).map PyFc05.whole)) = ((Fc05.step s k).2.length : Int) :: ((Fc05.step s k).2 ++ PyFlat.told (PyFlat.played (fun s c => Fc05Neutral.step s (c.headD [])) (Fc05.step s k).1 (cs.map PyFc05.whole))) := by
          show PyFlat.told ((Fc05Neutral.step s ((PyFc05.whole c).headD [])).2 :: PyFlat.played _ (Fc05Neutral.step s ((PyFc05.whole c).headD [])).1 (cs.map PyFc05.whole)) = _
          rw [hs]
          rfl
        rw [e4]
        exact .cons hd hf ih
theorem runs_of (l : List Int) (hask : PyFc05.answers_asked l = true) : Runs (l.map Int.toNat) Fc05.init (PyFc05.answers l) ∧ (PyFc05.answers l).length ≤ 10000000 := by
  unfold PyFc05.answers_asked at hask
  cases e : PyFlat.calls PyFc05.shape l.length l with
  | none =>
    rw [e] at hask
    cases hask
  | some raw =>
    rw [e] at hask
    dsimp only at hask
    rw [Bool.and_eq_true, Bool.and_eq_true, Bool.and_eq_true, Bool.and_eq_true] at hask
    obtain ⟨⟨⟨⟨_, _⟩, h1⟩, h2⟩, h3⟩ := hask
    refine ⟨?_, of_decide_eq_true h3⟩
    have e2 : PyFc05.answers l = PyFlat.told (PyFlat.played (fun s c => Fc05Neutral.step s (c.headD [])) Fc05.init (raw.map PyFc05.whole)) := by
      unfold PyFc05.answers PyFc05.calls
      rw [e]
      rfl
    rw [e2]
    refine runs_more _ l raw Fc05.init e h1 fun c hc => ?_
    unfold Fc05Neutral.asked at h2
    rw [Bool.and_eq_true] at h2
    exact List.all_eq_true.mp h2.1 _ (List.mem_map.mpr ⟨_, List.mem_map.mpr ⟨c, hc, rfl⟩, rfl⟩)
end Im

namespace Im
open PySem PySem.Spec PyProof.Rows L2
open PySem.W (Codec)
/-! ### the end -/
def DefF (K : PySem.W.Frag) (x qual : Str) (st : Stmt) (f : Addr) : Prop := ∃ (oc : Value) (od : Option Addr) (kV doc pm : Value) (an : Option Addr) (cdv ct : Value) (osl : Array (Option Value)),
  K.lookup f = some ⟨oc, od, .func (PySem.W.fnOf x qual (defArgs st) (defBody st) (defScope st) .none kV doc pm an cdv ct), osl⟩ ∧ PySem.W.codeIn K cdv qual = true ∧ PySem.W.keepIn K (.ref f) = true
theorem DefF.fn {K : PySem.W.Frag} {x qual : Str} {st : Stmt} {f : Addr} (h : DefF K x qual st f) : ∃ fd, Fun K x qual st f fd := by
  obtain ⟨oc, od, kV, doc, pm, an, cdv, ct, osl, h1, h2, h3⟩ := h
  exact ⟨_, fun_mk h1 h2 h3⟩
def TupF (K : PySem.W.Frag) (a : Addr) : Prop := ∃ (o : Obj) (its : Array Value) (n : Nat), K.lookup a = some o ∧ o.cls = .type "tuple" ∧ o.data = .seq its n ∧ its.size ≤ sizeLine ∧ Vals (wnL.map fun (n : Nat) => V.int n) its.toList
def natsB : List Nat → List Value → Bool
  | [], [] => true
  | n :: l, .int i _ :: us => decide (i = (n : Int)) && natsB l us
  | _, _ => false
theorem natsB_vals : ∀ (l : List Nat) (us : List Value), natsB l us = true → Vals (l.map fun (n : Nat) => V.int n) us
  | [], [], _ => .nil
  | [], _ :: _, h => nomatch h
  | _ :: _, [], h => nomatch h
  | n :: l, u :: us, h => by
    cases u with
    | int i t =>
      have h' : (decide (i = (n : Int)) && natsB l us) = true := h
      rw [Bool.and_eq_true, decide_eq_true_eq] at h'
      obtain ⟨rfl, h2⟩ := h'
      exact .cons ⟨t, rfl⟩ (natsB_vals l us h2)
    | _ => cases h
theorem TupF.mk {K : PySem.W.Frag} {a : Addr} {o : Obj} {its : Array Value} {n : Nat} (l : K.lookup a = some o) (h1 : o.cls = .type "tuple") (h2 : o.data = .seq its n) (h3 : Nat.ble its.size sizeLine = true) (h4 : natsB wnL its.toList = true) : TupF K a := ⟨o, its, n, l, h1, h2, Nat.le_of_ble_eq_true h3, natsB_vals _ _ h4⟩
theorem DefF.mk {K : PySem.W.Frag} {x qual : Str} {st : Stmt} {f : Addr} {oc : Value} {od : Option Addr} {kV doc pm : Value} {an : Option Addr} {cdv ct : Value} {osl : Array (Option Value)} (l : K.lookup f = some ⟨oc, od, .func (PySem.W.fnOf x qual (defArgs st) (defBody st) (defScope st) .none kV doc pm an cdv ct), osl⟩) (c : PySem.W.codeIn K cdv qual = true) (k : PySem.W.keepIn K (.ref f) = true) : DefF K x qual st f := ⟨oc, od, kV, doc, pm, an, cdv, ct, osl, l, c, k⟩
theorem asked_sp (K : PySem.W.Frag) (H : Hp) (xs : List V) (a : Codec.denoteAll PySem.Challenge.rw_impliedparts_s01_answers.args) (hO : OnlyF H) (hwi : Codec.withinAll PySem.Challenge.rw_impliedparts_s01_answers.args a = true) (hask : Codec.app PySem.Challenge.rw_impliedparts_s01_answers.args PySem.Challenge.rw_impliedparts_s01_answers.asked a = true) (hx : DwAll K H xs (Codec.encAll PySem.Challenge.rw_impliedparts_s01_answers.args a)) : sp_answers K 0 0 0 xs H (fun v H' => Dw K H' v (PySem.Challenge.rw_impliedparts_s01_answers.ret.enc (Codec.app PySem.Challenge.rw_impliedparts_s01_answers.args PySem.Challenge.rw_impliedparts_s01_answers.f a))) fun _ _ _ => False := by
  cases hx with
  | cons h1 h2 =>
    cases h2
    cases h1 with
    | lst hs ha =>
      have e := L2.ints_dw a.1 _ ha
      subst e
      have q : ((Codec.inLen 0 2520 a.1 && a.1.all (Codec.inInt 0 4294967295)) && true) = true := hwi
      rw [Bool.and_eq_true, Bool.and_eq_true] at q
      have h0 : ∀ x ∈ a.1, 0 ≤ x := fun x hx => (Codec.inInt_iff.mp (List.all_eq_true.mp q.1.2 x hx)).1
      have hr := Im.runs_of a.1 hask
      exact ⟨_, a.1.map Int.toNat, PyFc05.answers a.1, rfl, by rw [Im.nv_toNat h0]; exact hs, by rw [List.length_map]; exact (Codec.inNat_iff.mp q.1.1).2, hr.1, hr.2, fun H' p hp => .lst (L2.SqL.of hp) (L2.dw_ints _)⟩
theorem all_mk {P : Program} {w : World} {K : PySem.W.Frag} {h : Heap} {mg : Str → Option Value} {fa CC CI CL WN : Addr} {f_initCategory f_arrow_count f_add_arrow f_is_own f_told_arrows f_arrows_from f_do_meet f_tell_made f_all_choices f_met_part f_told_part f_keeps_ties f_has_row f_all_rows f_led_along f_forget_parts f_has_instance f_is_part_of f_share_instance f_instance_of f_back_part f_end_of_call f_what_make f_meeting_pairs f_joined_part f_is_within f_arrows_into f_put_part f_ties_closed_by f_longer_maps f_initInstance f_tell_size f_led_to f_first_gap f_call_set f_moves_of_map f_forward_part f_refusal_along f_call_shows f_makes_fit f_is_same_taken f_brought_part f_row_implies f_is_part f_is_closed f_maps_between f_first_detour f_call_rows f_leads_to_none f_chosen_moves f_call_within f_is_category f_implied_part f_all_parts f_closed_sets f_first_fault f_forget_rows f_for_all_part f_call_forward f_call_back f_call_start f_call_arrow f_call_make f_not_part f_call_sieves f_is_right f_call_check f_initLine f_call_for_all f_rows_between f_refusal_of_parts f_call_count f_call_way f_answer_of_category_call f_answer_of_map_call f_call_part f_call_meet f_call_join f_call_implies f_call_not f_call_nth f_call_truth f_call_between f_answer_of_instance_call f_answer_of_part_call f_answer_of_counting_call f_answer_of_truth_call f_answer_of f_answers : Addr} {t_NOT_REFUSED t_UNFIT t_NO_SUCH_INSTANCE t_NO_SUCH_PART t_NO_SUCH_ARROW t_NO_SUCH_MAP t_NO_SUCH_NUMBER t_FULL t_NOT_RIGHT t_NO_MAP_CHOSEN t_MOST_THINGS t_MOST_ARROWS t_NOT_TOLD t_MOST_ROWS t_INSTANCES t_PARTS t_PARTS_OF_EACH t_START t_ARROW t_MAKE t_ROWS t_SET t_CHECK t_WAY t_PART t_MEET t_JOIN t_IMPLIES t_NOT t_FORWARD t_BACK t_FOR_ALL t_WITHIN t_COUNT t_NTH t_TRUTH t_SIEVES t_BETWEEN : Tok} (X : K.In h) (G : h.Ns mainGlobals mg) (hfa : mg "answers" = some (.ref fa))
    (aCC : PySem.W.nsIn K mainGlobals "Category" = some (some (.ref CC)))
    (aCI : PySem.W.nsIn K mainGlobals "Instance" = some (some (.ref CI)))
    (aCL : PySem.W.nsIn K mainGlobals "Line" = some (some (.ref CL)))
    (pgCC : PySem.W.plainGet K CC Str.empty = true)
    (hdCC : PySem.W.hasDictIn K CC = true)
    (poCC : PySem.W.plainOver K CC = true)
    (saCC : PySem.W.findIn K (.ref CC) "__setattr__" = some (some (.builtin "object.__setattr__")))
    (mkCC : PySem.W.makesIn K CC = true)
    (kcCC : PySem.W.keepIn K (.ref CC) = true)
    (nCC_things : PySem.W.findIn K (.ref CC) "things" = some none)
    (nCC_begins : PySem.W.findIn K (.ref CC) "begins" = some none)
    (nCC_ends : PySem.W.findIn K (.ref CC) "ends" = some none)
    (nCC_made : PySem.W.findIn K (.ref CC) "made" = some none)
    (pgCI : PySem.W.plainGet K CI Str.empty = true)
    (hdCI : PySem.W.hasDictIn K CI = true)
    (poCI : PySem.W.plainOver K CI = true)
    (saCI : PySem.W.findIn K (.ref CI) "__setattr__" = some (some (.builtin "object.__setattr__")))
    (mkCI : PySem.W.makesIn K CI = true)
    (kcCI : PySem.W.keepIn K (.ref CI) = true)
    (nCI_category : PySem.W.findIn K (.ref CI) "category" = some none)
    (nCI_sizes : PySem.W.findIn K (.ref CI) "sizes" = some none)
    (nCI_leads : PySem.W.findIn K (.ref CI) "leads" = some none)
    (pgCL : PySem.W.plainGet K CL Str.empty = true)
    (hdCL : PySem.W.hasDictIn K CL = true)
    (poCL : PySem.W.plainOver K CL = true)
    (saCL : PySem.W.findIn K (.ref CL) "__setattr__" = some (some (.builtin "object.__setattr__")))
    (mkCL : PySem.W.makesIn K CL = true)
    (kcCL : PySem.W.keepIn K (.ref CL) = true)
    (nCL_category : PySem.W.findIn K (.ref CL) "category" = some none)
    (nCL_instances : PySem.W.findIn K (.ref CL) "instances" = some none)
    (nCL_parts : PySem.W.findIn K (.ref CL) "parts" = some none)
    (nCL_chosen : PySem.W.findIn K (.ref CL) "chosen" = some none)
    (c_NOT_REFUSED : PySem.W.nsIn K mainGlobals "NOT_REFUSED" = some (some (.int (0) t_NOT_REFUSED)))
    (c_UNFIT : PySem.W.nsIn K mainGlobals "UNFIT" = some (some (.int (-1) t_UNFIT)))
    (c_NO_SUCH_INSTANCE : PySem.W.nsIn K mainGlobals "NO_SUCH_INSTANCE" = some (some (.int (-2) t_NO_SUCH_INSTANCE)))
    (c_NO_SUCH_PART : PySem.W.nsIn K mainGlobals "NO_SUCH_PART" = some (some (.int (-2) t_NO_SUCH_PART)))
    (c_NO_SUCH_ARROW : PySem.W.nsIn K mainGlobals "NO_SUCH_ARROW" = some (some (.int (-3) t_NO_SUCH_ARROW)))
    (c_NO_SUCH_MAP : PySem.W.nsIn K mainGlobals "NO_SUCH_MAP" = some (some (.int (-3) t_NO_SUCH_MAP)))
    (c_NO_SUCH_NUMBER : PySem.W.nsIn K mainGlobals "NO_SUCH_NUMBER" = some (some (.int (-3) t_NO_SUCH_NUMBER)))
    (c_FULL : PySem.W.nsIn K mainGlobals "FULL" = some (some (.int (-5) t_FULL)))
    (c_NOT_RIGHT : PySem.W.nsIn K mainGlobals "NOT_RIGHT" = some (some (.int (-6) t_NOT_RIGHT)))
    (c_NO_MAP_CHOSEN : PySem.W.nsIn K mainGlobals "NO_MAP_CHOSEN" = some (some (.int (-6) t_NO_MAP_CHOSEN)))
    (c_MOST_THINGS : PySem.W.nsIn K mainGlobals "MOST_THINGS" = some (some (.int (3) t_MOST_THINGS)))
    (c_MOST_ARROWS : PySem.W.nsIn K mainGlobals "MOST_ARROWS" = some (some (.int (8) t_MOST_ARROWS)))
    (c_NOT_TOLD : PySem.W.nsIn K mainGlobals "NOT_TOLD" = some (some (.int (99) t_NOT_TOLD)))
    (c_MOST_ROWS : PySem.W.nsIn K mainGlobals "MOST_ROWS" = some (some (.int (6) t_MOST_ROWS)))
    (c_INSTANCES : PySem.W.nsIn K mainGlobals "INSTANCES" = some (some (.int (2) t_INSTANCES)))
    (c_PARTS : PySem.W.nsIn K mainGlobals "PARTS" = some (some (.int (8) t_PARTS)))
    (c_PARTS_OF_EACH : PySem.W.nsIn K mainGlobals "PARTS_OF_EACH" = some (some (.int (4) t_PARTS_OF_EACH)))
    (c_START : PySem.W.nsIn K mainGlobals "START" = some (some (.int (0) t_START)))
    (c_ARROW : PySem.W.nsIn K mainGlobals "ARROW" = some (some (.int (1) t_ARROW)))
    (c_MAKE : PySem.W.nsIn K mainGlobals "MAKE" = some (some (.int (2) t_MAKE)))
    (c_ROWS : PySem.W.nsIn K mainGlobals "ROWS" = some (some (.int (3) t_ROWS)))
    (c_SET : PySem.W.nsIn K mainGlobals "SET" = some (some (.int (4) t_SET)))
    (c_CHECK : PySem.W.nsIn K mainGlobals "CHECK" = some (some (.int (5) t_CHECK)))
    (c_WAY : PySem.W.nsIn K mainGlobals "WAY" = some (some (.int (6) t_WAY)))
    (c_PART : PySem.W.nsIn K mainGlobals "PART" = some (some (.int (7) t_PART)))
    (c_MEET : PySem.W.nsIn K mainGlobals "MEET" = some (some (.int (8) t_MEET)))
    (c_JOIN : PySem.W.nsIn K mainGlobals "JOIN" = some (some (.int (9) t_JOIN)))
    (c_IMPLIES : PySem.W.nsIn K mainGlobals "IMPLIES" = some (some (.int (10) t_IMPLIES)))
    (c_NOT : PySem.W.nsIn K mainGlobals "NOT" = some (some (.int (11) t_NOT)))
    (c_FORWARD : PySem.W.nsIn K mainGlobals "FORWARD" = some (some (.int (12) t_FORWARD)))
    (c_BACK : PySem.W.nsIn K mainGlobals "BACK" = some (some (.int (13) t_BACK)))
    (c_FOR_ALL : PySem.W.nsIn K mainGlobals "FOR_ALL" = some (some (.int (14) t_FOR_ALL)))
    (c_WITHIN : PySem.W.nsIn K mainGlobals "WITHIN" = some (some (.int (15) t_WITHIN)))
    (c_COUNT : PySem.W.nsIn K mainGlobals "COUNT" = some (some (.int (16) t_COUNT)))
    (c_NTH : PySem.W.nsIn K mainGlobals "NTH" = some (some (.int (17) t_NTH)))
    (c_TRUTH : PySem.W.nsIn K mainGlobals "TRUTH" = some (some (.int (18) t_TRUTH)))
    (c_SIEVES : PySem.W.nsIn K mainGlobals "SIEVES" = some (some (.int (19) t_SIEVES)))
    (c_BETWEEN : PySem.W.nsIn K mainGlobals "BETWEEN" = some (some (.int (20) t_BETWEEN)))
    (f_len_ : PySem.W.nsIn K mainGlobals "len" = some none)
    (f_range_ : PySem.W.nsIn K mainGlobals "range" = some none)
    (f_list_ : PySem.W.nsIn K mainGlobals "list" = some none)
    (f_enumerate_ : PySem.W.nsIn K mainGlobals "enumerate" = some none)
    (f_max_ : PySem.W.nsIn K mainGlobals "max" = some none)
    (f_sum_ : PySem.W.nsIn K mainGlobals "sum" = some none)
    (aWN : PySem.W.nsIn K mainGlobals "WHOLE_NUMBERS" = some (some (.ref WN)))
    (tWN : TupF K WN)
    (a_initCategory : PySem.W.findIn K (.ref CC) "__init__" = some (some (.ref f_initCategory)))
    (i_initCategory : PySem.W.isFn K (.ref f_initCategory) = true)
    (d_initCategory : DefF K "__init__" "Category.__init__" s_initCategory f_initCategory)
    (a_arrow_count : PySem.W.findIn K (.ref CC) "arrow_count" = some (some (.ref f_arrow_count)))
    (i_arrow_count : PySem.W.isFn K (.ref f_arrow_count) = true)
    (d_arrow_count : DefF K "arrow_count" "Category.arrow_count" s_arrow_count f_arrow_count)
    (a_add_arrow : PySem.W.findIn K (.ref CC) "add_arrow" = some (some (.ref f_add_arrow)))
    (i_add_arrow : PySem.W.isFn K (.ref f_add_arrow) = true)
    (d_add_arrow : DefF K "add_arrow" "Category.add_arrow" s_add_arrow f_add_arrow)
    (a_is_own : PySem.W.findIn K (.ref CC) "is_own" = some (some (.ref f_is_own)))
    (i_is_own : PySem.W.isFn K (.ref f_is_own) = true)
    (d_is_own : DefF K "is_own" "Category.is_own" s_is_own f_is_own)
    (a_told_arrows : PySem.W.findIn K (.ref CC) "told_arrows" = some (some (.ref f_told_arrows)))
    (i_told_arrows : PySem.W.isFn K (.ref f_told_arrows) = true)
    (d_told_arrows : DefF K "told_arrows" "Category.told_arrows" s_told_arrows f_told_arrows)
    (a_arrows_from : PySem.W.findIn K (.ref CC) "arrows_from" = some (some (.ref f_arrows_from)))
    (i_arrows_from : PySem.W.isFn K (.ref f_arrows_from) = true)
    (d_arrows_from : DefF K "arrows_from" "Category.arrows_from" s_arrows_from f_arrows_from)
    (a_do_meet : PySem.W.findIn K (.ref CC) "do_meet" = some (some (.ref f_do_meet)))
    (i_do_meet : PySem.W.isFn K (.ref f_do_meet) = true)
    (d_do_meet : DefF K "do_meet" "Category.do_meet" s_do_meet f_do_meet)
    (a_tell_made : PySem.W.findIn K (.ref CC) "tell_made" = some (some (.ref f_tell_made)))
    (i_tell_made : PySem.W.isFn K (.ref f_tell_made) = true)
    (d_tell_made : DefF K "tell_made" "Category.tell_made" s_tell_made f_tell_made)
    (a_all_choices : PySem.W.nsIn K mainGlobals "all_choices" = some (some (.ref f_all_choices)))
    (d_all_choices : DefF K "all_choices" "all_choices" s_all_choices f_all_choices)
    (a_met_part : PySem.W.nsIn K mainGlobals "met_part" = some (some (.ref f_met_part)))
    (d_met_part : DefF K "met_part" "met_part" s_met_part f_met_part)
    (a_told_part : PySem.W.nsIn K mainGlobals "told_part" = some (some (.ref f_told_part)))
    (d_told_part : DefF K "told_part" "told_part" s_told_part f_told_part)
    (a_keeps_ties : PySem.W.nsIn K mainGlobals "keeps_ties" = some (some (.ref f_keeps_ties)))
    (d_keeps_ties : DefF K "keeps_ties" "keeps_ties" s_keeps_ties f_keeps_ties)
    (a_has_row : PySem.W.findIn K (.ref CI) "has_row" = some (some (.ref f_has_row)))
    (i_has_row : PySem.W.isFn K (.ref f_has_row) = true)
    (d_has_row : DefF K "has_row" "Instance.has_row" s_has_row f_has_row)
    (a_all_rows : PySem.W.findIn K (.ref CI) "all_rows" = some (some (.ref f_all_rows)))
    (i_all_rows : PySem.W.isFn K (.ref f_all_rows) = true)
    (d_all_rows : DefF K "all_rows" "Instance.all_rows" s_all_rows f_all_rows)
    (a_led_along : PySem.W.findIn K (.ref CI) "led_along" = some (some (.ref f_led_along)))
    (i_led_along : PySem.W.isFn K (.ref f_led_along) = true)
    (d_led_along : DefF K "led_along" "Instance.led_along" s_led_along f_led_along)
    (a_forget_parts : PySem.W.findIn K (.ref CL) "forget_parts" = some (some (.ref f_forget_parts)))
    (i_forget_parts : PySem.W.isFn K (.ref f_forget_parts) = true)
    (d_forget_parts : DefF K "forget_parts" "Line.forget_parts" s_forget_parts f_forget_parts)
    (a_has_instance : PySem.W.findIn K (.ref CL) "has_instance" = some (some (.ref f_has_instance)))
    (i_has_instance : PySem.W.isFn K (.ref f_has_instance) = true)
    (d_has_instance : DefF K "has_instance" "Line.has_instance" s_has_instance f_has_instance)
    (a_is_part_of : PySem.W.findIn K (.ref CL) "is_part_of" = some (some (.ref f_is_part_of)))
    (i_is_part_of : PySem.W.isFn K (.ref f_is_part_of) = true)
    (d_is_part_of : DefF K "is_part_of" "Line.is_part_of" s_is_part_of f_is_part_of)
    (a_share_instance : PySem.W.findIn K (.ref CL) "share_instance" = some (some (.ref f_share_instance)))
    (i_share_instance : PySem.W.isFn K (.ref f_share_instance) = true)
    (d_share_instance : DefF K "share_instance" "Line.share_instance" s_share_instance f_share_instance)
    (a_instance_of : PySem.W.findIn K (.ref CL) "instance_of" = some (some (.ref f_instance_of)))
    (i_instance_of : PySem.W.isFn K (.ref f_instance_of) = true)
    (d_instance_of : DefF K "instance_of" "Line.instance_of" s_instance_of f_instance_of)
    (a_back_part : PySem.W.nsIn K mainGlobals "back_part" = some (some (.ref f_back_part)))
    (d_back_part : DefF K "back_part" "back_part" s_back_part f_back_part)
    (a_end_of_call : PySem.W.nsIn K mainGlobals "end_of_call" = some (some (.ref f_end_of_call)))
    (d_end_of_call : DefF K "end_of_call" "end_of_call" s_end_of_call f_end_of_call)
    (a_what_make : PySem.W.findIn K (.ref CC) "what_make" = some (some (.ref f_what_make)))
    (i_what_make : PySem.W.isFn K (.ref f_what_make) = true)
    (d_what_make : DefF K "what_make" "Category.what_make" s_what_make f_what_make)
    (a_meeting_pairs : PySem.W.findIn K (.ref CC) "meeting_pairs" = some (some (.ref f_meeting_pairs)))
    (i_meeting_pairs : PySem.W.isFn K (.ref f_meeting_pairs) = true)
    (d_meeting_pairs : DefF K "meeting_pairs" "Category.meeting_pairs" s_meeting_pairs f_meeting_pairs)
    (a_joined_part : PySem.W.nsIn K mainGlobals "joined_part" = some (some (.ref f_joined_part)))
    (d_joined_part : DefF K "joined_part" "joined_part" s_joined_part f_joined_part)
    (a_is_within : PySem.W.nsIn K mainGlobals "is_within" = some (some (.ref f_is_within)))
    (d_is_within : DefF K "is_within" "is_within" s_is_within f_is_within)
    (a_arrows_into : PySem.W.nsIn K mainGlobals "arrows_into" = some (some (.ref f_arrows_into)))
    (d_arrows_into : DefF K "arrows_into" "arrows_into" s_arrows_into f_arrows_into)
    (a_put_part : PySem.W.nsIn K mainGlobals "put_part" = some (some (.ref f_put_part)))
    (d_put_part : DefF K "put_part" "put_part" s_put_part f_put_part)
    (a_ties_closed_by : PySem.W.nsIn K mainGlobals "ties_closed_by" = some (some (.ref f_ties_closed_by)))
    (d_ties_closed_by : DefF K "ties_closed_by" "ties_closed_by" s_ties_closed_by f_ties_closed_by)
    (a_longer_maps : PySem.W.nsIn K mainGlobals "longer_maps" = some (some (.ref f_longer_maps)))
    (d_longer_maps : DefF K "longer_maps" "longer_maps" s_longer_maps f_longer_maps)
    (a_initInstance : PySem.W.findIn K (.ref CI) "__init__" = some (some (.ref f_initInstance)))
    (i_initInstance : PySem.W.isFn K (.ref f_initInstance) = true)
    (d_initInstance : DefF K "__init__" "Instance.__init__" s_initInstance f_initInstance)
    (a_tell_size : PySem.W.findIn K (.ref CI) "tell_size" = some (some (.ref f_tell_size)))
    (i_tell_size : PySem.W.isFn K (.ref f_tell_size) = true)
    (d_tell_size : DefF K "tell_size" "Instance.tell_size" s_tell_size f_tell_size)
    (a_led_to : PySem.W.findIn K (.ref CI) "led_to" = some (some (.ref f_led_to)))
    (i_led_to : PySem.W.isFn K (.ref f_led_to) = true)
    (d_led_to : DefF K "led_to" "Instance.led_to" s_led_to f_led_to)
    (a_first_gap : PySem.W.findIn K (.ref CI) "first_gap" = some (some (.ref f_first_gap)))
    (i_first_gap : PySem.W.isFn K (.ref f_first_gap) = true)
    (d_first_gap : DefF K "first_gap" "Instance.first_gap" s_first_gap f_first_gap)
    (a_call_set : PySem.W.nsIn K mainGlobals "call_set" = some (some (.ref f_call_set)))
    (d_call_set : DefF K "call_set" "call_set" s_call_set f_call_set)
    (a_moves_of_map : PySem.W.nsIn K mainGlobals "moves_of_map" = some (some (.ref f_moves_of_map)))
    (d_moves_of_map : DefF K "moves_of_map" "moves_of_map" s_moves_of_map f_moves_of_map)
    (a_forward_part : PySem.W.nsIn K mainGlobals "forward_part" = some (some (.ref f_forward_part)))
    (d_forward_part : DefF K "forward_part" "forward_part" s_forward_part f_forward_part)
    (a_refusal_along : PySem.W.nsIn K mainGlobals "refusal_along" = some (some (.ref f_refusal_along)))
    (d_refusal_along : DefF K "refusal_along" "refusal_along" s_refusal_along f_refusal_along)
    (a_call_shows : PySem.W.nsIn K mainGlobals "call_shows" = some (some (.ref f_call_shows)))
    (d_call_shows : DefF K "call_shows" "call_shows" s_call_shows f_call_shows)
    (a_makes_fit : PySem.W.findIn K (.ref CC) "makes_fit" = some (some (.ref f_makes_fit)))
    (i_makes_fit : PySem.W.isFn K (.ref f_makes_fit) = true)
    (d_makes_fit : DefF K "makes_fit" "Category.makes_fit" s_makes_fit f_makes_fit)
    (a_is_same_taken : PySem.W.findIn K (.ref CC) "is_same_taken" = some (some (.ref f_is_same_taken)))
    (i_is_same_taken : PySem.W.isFn K (.ref f_is_same_taken) = true)
    (d_is_same_taken : DefF K "is_same_taken" "Category.is_same_taken" s_is_same_taken f_is_same_taken)
    (a_brought_part : PySem.W.nsIn K mainGlobals "brought_part" = some (some (.ref f_brought_part)))
    (d_brought_part : DefF K "brought_part" "brought_part" s_brought_part f_brought_part)
    (a_row_implies : PySem.W.nsIn K mainGlobals "row_implies" = some (some (.ref f_row_implies)))
    (d_row_implies : DefF K "row_implies" "row_implies" s_row_implies f_row_implies)
    (a_is_part : PySem.W.nsIn K mainGlobals "is_part" = some (some (.ref f_is_part)))
    (d_is_part : DefF K "is_part" "is_part" s_is_part f_is_part)
    (a_is_closed : PySem.W.nsIn K mainGlobals "is_closed" = some (some (.ref f_is_closed)))
    (d_is_closed : DefF K "is_closed" "is_closed" s_is_closed f_is_closed)
    (a_maps_between : PySem.W.nsIn K mainGlobals "maps_between" = some (some (.ref f_maps_between)))
    (d_maps_between : DefF K "maps_between" "maps_between" s_maps_between f_maps_between)
    (a_first_detour : PySem.W.findIn K (.ref CI) "first_detour" = some (some (.ref f_first_detour)))
    (i_first_detour : PySem.W.isFn K (.ref f_first_detour) = true)
    (d_first_detour : DefF K "first_detour" "Instance.first_detour" s_first_detour f_first_detour)
    (a_call_rows : PySem.W.nsIn K mainGlobals "call_rows" = some (some (.ref f_call_rows)))
    (d_call_rows : DefF K "call_rows" "call_rows" s_call_rows f_call_rows)
    (a_leads_to_none : PySem.W.nsIn K mainGlobals "leads_to_none" = some (some (.ref f_leads_to_none)))
    (d_leads_to_none : DefF K "leads_to_none" "leads_to_none" s_leads_to_none f_leads_to_none)
    (a_chosen_moves : PySem.W.nsIn K mainGlobals "chosen_moves" = some (some (.ref f_chosen_moves)))
    (d_chosen_moves : DefF K "chosen_moves" "chosen_moves" s_chosen_moves f_chosen_moves)
    (a_call_within : PySem.W.nsIn K mainGlobals "call_within" = some (some (.ref f_call_within)))
    (d_call_within : DefF K "call_within" "call_within" s_call_within f_call_within)
    (a_is_category : PySem.W.findIn K (.ref CC) "is_category" = some (some (.ref f_is_category)))
    (i_is_category : PySem.W.isFn K (.ref f_is_category) = true)
    (d_is_category : DefF K "is_category" "Category.is_category" s_is_category f_is_category)
    (a_implied_part : PySem.W.nsIn K mainGlobals "implied_part" = some (some (.ref f_implied_part)))
    (d_implied_part : DefF K "implied_part" "implied_part" s_implied_part f_implied_part)
    (a_all_parts : PySem.W.nsIn K mainGlobals "all_parts" = some (some (.ref f_all_parts)))
    (d_all_parts : DefF K "all_parts" "all_parts" s_all_parts f_all_parts)
    (a_closed_sets : PySem.W.nsIn K mainGlobals "closed_sets" = some (some (.ref f_closed_sets)))
    (d_closed_sets : DefF K "closed_sets" "closed_sets" s_closed_sets f_closed_sets)
    (a_first_fault : PySem.W.findIn K (.ref CI) "first_fault" = some (some (.ref f_first_fault)))
    (i_first_fault : PySem.W.isFn K (.ref f_first_fault) = true)
    (d_first_fault : DefF K "first_fault" "Instance.first_fault" s_first_fault f_first_fault)
    (a_forget_rows : PySem.W.findIn K (.ref CL) "forget_rows" = some (some (.ref f_forget_rows)))
    (i_forget_rows : PySem.W.isFn K (.ref f_forget_rows) = true)
    (d_forget_rows : DefF K "forget_rows" "Line.forget_rows" s_forget_rows f_forget_rows)
    (a_for_all_part : PySem.W.nsIn K mainGlobals "for_all_part" = some (some (.ref f_for_all_part)))
    (d_for_all_part : DefF K "for_all_part" "for_all_part" s_for_all_part f_for_all_part)
    (a_call_forward : PySem.W.nsIn K mainGlobals "call_forward" = some (some (.ref f_call_forward)))
    (d_call_forward : DefF K "call_forward" "call_forward" s_call_forward f_call_forward)
    (a_call_back : PySem.W.nsIn K mainGlobals "call_back" = some (some (.ref f_call_back)))
    (d_call_back : DefF K "call_back" "call_back" s_call_back f_call_back)
    (a_call_start : PySem.W.nsIn K mainGlobals "call_start" = some (some (.ref f_call_start)))
    (d_call_start : DefF K "call_start" "call_start" s_call_start f_call_start)
    (a_call_arrow : PySem.W.nsIn K mainGlobals "call_arrow" = some (some (.ref f_call_arrow)))
    (d_call_arrow : DefF K "call_arrow" "call_arrow" s_call_arrow f_call_arrow)
    (a_call_make : PySem.W.nsIn K mainGlobals "call_make" = some (some (.ref f_call_make)))
    (d_call_make : DefF K "call_make" "call_make" s_call_make f_call_make)
    (a_not_part : PySem.W.nsIn K mainGlobals "not_part" = some (some (.ref f_not_part)))
    (d_not_part : DefF K "not_part" "not_part" s_not_part f_not_part)
    (a_call_sieves : PySem.W.nsIn K mainGlobals "call_sieves" = some (some (.ref f_call_sieves)))
    (d_call_sieves : DefF K "call_sieves" "call_sieves" s_call_sieves f_call_sieves)
    (a_is_right : PySem.W.findIn K (.ref CI) "is_right" = some (some (.ref f_is_right)))
    (i_is_right : PySem.W.isFn K (.ref f_is_right) = true)
    (d_is_right : DefF K "is_right" "Instance.is_right" s_is_right f_is_right)
    (a_call_check : PySem.W.nsIn K mainGlobals "call_check" = some (some (.ref f_call_check)))
    (d_call_check : DefF K "call_check" "call_check" s_call_check f_call_check)
    (a_initLine : PySem.W.findIn K (.ref CL) "__init__" = some (some (.ref f_initLine)))
    (i_initLine : PySem.W.isFn K (.ref f_initLine) = true)
    (d_initLine : DefF K "__init__" "Line.__init__" s_initLine f_initLine)
    (a_call_for_all : PySem.W.nsIn K mainGlobals "call_for_all" = some (some (.ref f_call_for_all)))
    (d_call_for_all : DefF K "call_for_all" "call_for_all" s_call_for_all f_call_for_all)
    (a_rows_between : PySem.W.nsIn K mainGlobals "rows_between" = some (some (.ref f_rows_between)))
    (d_rows_between : DefF K "rows_between" "rows_between" s_rows_between f_rows_between)
    (a_refusal_of_parts : PySem.W.nsIn K mainGlobals "refusal_of_parts" = some (some (.ref f_refusal_of_parts)))
    (d_refusal_of_parts : DefF K "refusal_of_parts" "refusal_of_parts" s_refusal_of_parts f_refusal_of_parts)
    (a_call_count : PySem.W.nsIn K mainGlobals "call_count" = some (some (.ref f_call_count)))
    (d_call_count : DefF K "call_count" "call_count" s_call_count f_call_count)
    (a_call_way : PySem.W.nsIn K mainGlobals "call_way" = some (some (.ref f_call_way)))
    (d_call_way : DefF K "call_way" "call_way" s_call_way f_call_way)
    (a_answer_of_category_call : PySem.W.nsIn K mainGlobals "answer_of_category_call" = some (some (.ref f_answer_of_category_call)))
    (d_answer_of_category_call : DefF K "answer_of_category_call" "answer_of_category_call" s_answer_of_category_call f_answer_of_category_call)
    (a_answer_of_map_call : PySem.W.nsIn K mainGlobals "answer_of_map_call" = some (some (.ref f_answer_of_map_call)))
    (d_answer_of_map_call : DefF K "answer_of_map_call" "answer_of_map_call" s_answer_of_map_call f_answer_of_map_call)
    (a_call_part : PySem.W.nsIn K mainGlobals "call_part" = some (some (.ref f_call_part)))
    (d_call_part : DefF K "call_part" "call_part" s_call_part f_call_part)
    (a_call_meet : PySem.W.nsIn K mainGlobals "call_meet" = some (some (.ref f_call_meet)))
    (d_call_meet : DefF K "call_meet" "call_meet" s_call_meet f_call_meet)
    (a_call_join : PySem.W.nsIn K mainGlobals "call_join" = some (some (.ref f_call_join)))
    (d_call_join : DefF K "call_join" "call_join" s_call_join f_call_join)
    (a_call_implies : PySem.W.nsIn K mainGlobals "call_implies" = some (some (.ref f_call_implies)))
    (d_call_implies : DefF K "call_implies" "call_implies" s_call_implies f_call_implies)
    (a_call_not : PySem.W.nsIn K mainGlobals "call_not" = some (some (.ref f_call_not)))
    (d_call_not : DefF K "call_not" "call_not" s_call_not f_call_not)
    (a_call_nth : PySem.W.nsIn K mainGlobals "call_nth" = some (some (.ref f_call_nth)))
    (d_call_nth : DefF K "call_nth" "call_nth" s_call_nth f_call_nth)
    (a_call_truth : PySem.W.nsIn K mainGlobals "call_truth" = some (some (.ref f_call_truth)))
    (d_call_truth : DefF K "call_truth" "call_truth" s_call_truth f_call_truth)
    (a_call_between : PySem.W.nsIn K mainGlobals "call_between" = some (some (.ref f_call_between)))
    (d_call_between : DefF K "call_between" "call_between" s_call_between f_call_between)
    (a_answer_of_instance_call : PySem.W.nsIn K mainGlobals "answer_of_instance_call" = some (some (.ref f_answer_of_instance_call)))
    (d_answer_of_instance_call : DefF K "answer_of_instance_call" "answer_of_instance_call" s_answer_of_instance_call f_answer_of_instance_call)
    (a_answer_of_part_call : PySem.W.nsIn K mainGlobals "answer_of_part_call" = some (some (.ref f_answer_of_part_call)))
    (d_answer_of_part_call : DefF K "answer_of_part_call" "answer_of_part_call" s_answer_of_part_call f_answer_of_part_call)
    (a_answer_of_counting_call : PySem.W.nsIn K mainGlobals "answer_of_counting_call" = some (some (.ref f_answer_of_counting_call)))
    (d_answer_of_counting_call : DefF K "answer_of_counting_call" "answer_of_counting_call" s_answer_of_counting_call f_answer_of_counting_call)
    (a_answer_of_truth_call : PySem.W.nsIn K mainGlobals "answer_of_truth_call" = some (some (.ref f_answer_of_truth_call)))
    (d_answer_of_truth_call : DefF K "answer_of_truth_call" "answer_of_truth_call" s_answer_of_truth_call f_answer_of_truth_call)
    (a_answer_of : PySem.W.nsIn K mainGlobals "answer_of" = some (some (.ref f_answer_of)))
    (d_answer_of : DefF K "answer_of" "answer_of" s_answer_of f_answer_of)
    (a_answers : PySem.W.nsIn K mainGlobals "answers" = some (some (.ref f_answers)))
    (d_answers : DefF K "answers" "answers" s_answers f_answers) :
    ∃ fd : FuncData, (∀ (s : Shared) (us : List Value), us.length = (["calls"] : List Str).length → BindsTo s fd ⟨us, []⟩ ((["calls"] : List Str).zip us)) ∧ ∀ base : Heap, K.In base → base.Ns mainGlobals mg → FnOk P w K mg base CX0 10 fa fd ["calls"] (sp_answers K 0 0 0) := by
  have e := hfa.symm.trans (PySem.W.mg_of X G a_answers)
  cases e
  have T : Txt K mg CC CI CL WN := {
    cCC := ⟨pgCC, hdCC, poCC, saCC⟩
    cCI := ⟨pgCI, hdCI, poCI, saCI⟩
    cCL := ⟨pgCL, hdCL, poCL, saCL⟩
    nCC_things := nCC_things
    nCC_begins := nCC_begins
    nCC_ends := nCC_ends
    nCC_made := nCC_made
    nCI_category := nCI_category
    nCI_sizes := nCI_sizes
    nCI_leads := nCI_leads
    nCL_category := nCL_category
    nCL_instances := nCL_instances
    nCL_parts := nCL_parts
    nCL_chosen := nCL_chosen
    gCC := PySem.W.mg_of X G aCC
    gCI := PySem.W.mg_of X G aCI
    gCL := PySem.W.mg_of X G aCL
    c_NOT_REFUSED := ⟨_, PySem.W.mg_of X G c_NOT_REFUSED, ⟨_, rfl⟩⟩
    c_UNFIT := ⟨_, PySem.W.mg_of X G c_UNFIT, ⟨_, rfl⟩⟩
    c_NO_SUCH_INSTANCE := ⟨_, PySem.W.mg_of X G c_NO_SUCH_INSTANCE, ⟨_, rfl⟩⟩
    c_NO_SUCH_PART := ⟨_, PySem.W.mg_of X G c_NO_SUCH_PART, ⟨_, rfl⟩⟩
    c_NO_SUCH_ARROW := ⟨_, PySem.W.mg_of X G c_NO_SUCH_ARROW, ⟨_, rfl⟩⟩
    c_NO_SUCH_MAP := ⟨_, PySem.W.mg_of X G c_NO_SUCH_MAP, ⟨_, rfl⟩⟩
    c_NO_SUCH_NUMBER := ⟨_, PySem.W.mg_of X G c_NO_SUCH_NUMBER, ⟨_, rfl⟩⟩
    c_FULL := ⟨_, PySem.W.mg_of X G c_FULL, ⟨_, rfl⟩⟩
    c_NOT_RIGHT := ⟨_, PySem.W.mg_of X G c_NOT_RIGHT, ⟨_, rfl⟩⟩
    c_NO_MAP_CHOSEN := ⟨_, PySem.W.mg_of X G c_NO_MAP_CHOSEN, ⟨_, rfl⟩⟩
    c_MOST_THINGS := ⟨_, PySem.W.mg_of X G c_MOST_THINGS, ⟨_, rfl⟩⟩
    c_MOST_ARROWS := ⟨_, PySem.W.mg_of X G c_MOST_ARROWS, ⟨_, rfl⟩⟩
    c_NOT_TOLD := ⟨_, PySem.W.mg_of X G c_NOT_TOLD, ⟨_, rfl⟩⟩
    c_MOST_ROWS := ⟨_, PySem.W.mg_of X G c_MOST_ROWS, ⟨_, rfl⟩⟩
    c_INSTANCES := ⟨_, PySem.W.mg_of X G c_INSTANCES, ⟨_, rfl⟩⟩
    c_PARTS := ⟨_, PySem.W.mg_of X G c_PARTS, ⟨_, rfl⟩⟩
    c_PARTS_OF_EACH := ⟨_, PySem.W.mg_of X G c_PARTS_OF_EACH, ⟨_, rfl⟩⟩
    c_START := ⟨_, PySem.W.mg_of X G c_START, ⟨_, rfl⟩⟩
    c_ARROW := ⟨_, PySem.W.mg_of X G c_ARROW, ⟨_, rfl⟩⟩
    c_MAKE := ⟨_, PySem.W.mg_of X G c_MAKE, ⟨_, rfl⟩⟩
    c_ROWS := ⟨_, PySem.W.mg_of X G c_ROWS, ⟨_, rfl⟩⟩
    c_SET := ⟨_, PySem.W.mg_of X G c_SET, ⟨_, rfl⟩⟩
    c_CHECK := ⟨_, PySem.W.mg_of X G c_CHECK, ⟨_, rfl⟩⟩
    c_WAY := ⟨_, PySem.W.mg_of X G c_WAY, ⟨_, rfl⟩⟩
    c_PART := ⟨_, PySem.W.mg_of X G c_PART, ⟨_, rfl⟩⟩
    c_MEET := ⟨_, PySem.W.mg_of X G c_MEET, ⟨_, rfl⟩⟩
    c_JOIN := ⟨_, PySem.W.mg_of X G c_JOIN, ⟨_, rfl⟩⟩
    c_IMPLIES := ⟨_, PySem.W.mg_of X G c_IMPLIES, ⟨_, rfl⟩⟩
    c_NOT := ⟨_, PySem.W.mg_of X G c_NOT, ⟨_, rfl⟩⟩
    c_FORWARD := ⟨_, PySem.W.mg_of X G c_FORWARD, ⟨_, rfl⟩⟩
    c_BACK := ⟨_, PySem.W.mg_of X G c_BACK, ⟨_, rfl⟩⟩
    c_FOR_ALL := ⟨_, PySem.W.mg_of X G c_FOR_ALL, ⟨_, rfl⟩⟩
    c_WITHIN := ⟨_, PySem.W.mg_of X G c_WITHIN, ⟨_, rfl⟩⟩
    c_COUNT := ⟨_, PySem.W.mg_of X G c_COUNT, ⟨_, rfl⟩⟩
    c_NTH := ⟨_, PySem.W.mg_of X G c_NTH, ⟨_, rfl⟩⟩
    c_TRUTH := ⟨_, PySem.W.mg_of X G c_TRUTH, ⟨_, rfl⟩⟩
    c_SIEVES := ⟨_, PySem.W.mg_of X G c_SIEVES, ⟨_, rfl⟩⟩
    c_BETWEEN := ⟨_, PySem.W.mg_of X G c_BETWEEN, ⟨_, rfl⟩⟩
    f_len := PySem.W.mg_none_of X G f_len_
    f_range := PySem.W.mg_none_of X G f_range_
    f_list := PySem.W.mg_none_of X G f_list_
    f_enumerate := PySem.W.mg_none_of X G f_enumerate_
    f_max := PySem.W.mg_none_of X G f_max_
    f_sum := PySem.W.mg_none_of X G f_sum_
    wnG := PySem.W.mg_of X G aWN
    wnT := fun H => .inr tWN }
  obtain ⟨fd_initCategory, F_initCategory⟩ := d_initCategory.fn
  have b_initCategory := F_initCategory.binds (ps := ["self", "things"]) fun _ _ _ _ _ _ us hl => match us, hl with | [_, _], _ => rfl
  obtain ⟨fd_arrow_count, F_arrow_count⟩ := d_arrow_count.fn
  have b_arrow_count := F_arrow_count.binds (ps := ["self"]) fun _ _ _ _ _ _ us hl => match us, hl with | [_], _ => rfl
  obtain ⟨fd_add_arrow, F_add_arrow⟩ := d_add_arrow.fn
  have b_add_arrow := F_add_arrow.binds (ps := ["self", "x", "y"]) fun _ _ _ _ _ _ us hl => match us, hl with | [_, _, _], _ => rfl
  obtain ⟨fd_is_own, F_is_own⟩ := d_is_own.fn
  have b_is_own := F_is_own.binds (ps := ["self", "f"]) fun _ _ _ _ _ _ us hl => match us, hl with | [_, _], _ => rfl
  obtain ⟨fd_told_arrows, F_told_arrows⟩ := d_told_arrows.fn
  have b_told_arrows := F_told_arrows.binds (ps := ["self"]) fun _ _ _ _ _ _ us hl => match us, hl with | [_], _ => rfl
  obtain ⟨fd_arrows_from, F_arrows_from⟩ := d_arrows_from.fn
  have b_arrows_from := F_arrows_from.binds (ps := ["self", "x"]) fun _ _ _ _ _ _ us hl => match us, hl with | [_, _], _ => rfl
  obtain ⟨fd_do_meet, F_do_meet⟩ := d_do_meet.fn
  have b_do_meet := F_do_meet.binds (ps := ["self", "f", "g"]) fun _ _ _ _ _ _ us hl => match us, hl with | [_, _, _], _ => rfl
  obtain ⟨fd_tell_made, F_tell_made⟩ := d_tell_made.fn
  have b_tell_made := F_tell_made.binds (ps := ["self", "f", "g", "h"]) fun _ _ _ _ _ _ us hl => match us, hl with | [_, _, _, _], _ => rfl
  obtain ⟨fd_all_choices, F_all_choices⟩ := d_all_choices.fn
  have b_all_choices := F_all_choices.binds (ps := ["members"]) fun _ _ _ _ _ _ us hl => match us, hl with | [_], _ => rfl
  obtain ⟨fd_met_part, F_met_part⟩ := d_met_part.fn
  have b_met_part := F_met_part.binds (ps := ["p", "q"]) fun _ _ _ _ _ _ us hl => match us, hl with | [_, _], _ => rfl
  obtain ⟨fd_told_part, F_told_part⟩ := d_told_part.fn
  have b_told_part := F_told_part.binds (ps := ["part"]) fun _ _ _ _ _ _ us hl => match us, hl with | [_], _ => rfl
  obtain ⟨fd_keeps_ties, F_keeps_ties⟩ := d_keeps_ties.fn
  have b_keeps_ties := F_keeps_ties.binds (ps := ["target", "taken", "ties"]) fun _ _ _ _ _ _ us hl => match us, hl with | [_, _, _], _ => rfl
  obtain ⟨fd_has_row, F_has_row⟩ := d_has_row.fn
  have b_has_row := F_has_row.binds (ps := ["self", "x", "r"]) fun _ _ _ _ _ _ us hl => match us, hl with | [_, _, _], _ => rfl
  obtain ⟨fd_all_rows, F_all_rows⟩ := d_all_rows.fn
  have b_all_rows := F_all_rows.binds (ps := ["self"]) fun _ _ _ _ _ _ us hl => match us, hl with | [_], _ => rfl
  obtain ⟨fd_led_along, F_led_along⟩ := d_led_along.fn
  have b_led_along := F_led_along.binds (ps := ["self", "f", "row"]) fun _ _ _ _ _ _ us hl => match us, hl with | [_, _, _], _ => rfl
  obtain ⟨fd_forget_parts, F_forget_parts⟩ := d_forget_parts.fn
  have b_forget_parts := F_forget_parts.binds (ps := ["self", "i"]) fun _ _ _ _ _ _ us hl => match us, hl with | [_, _], _ => rfl
  obtain ⟨fd_has_instance, F_has_instance⟩ := d_has_instance.fn
  have b_has_instance := F_has_instance.binds (ps := ["self", "i"]) fun _ _ _ _ _ _ us hl => match us, hl with | [_, _], _ => rfl
  obtain ⟨fd_is_part_of, F_is_part_of⟩ := d_is_part_of.fn
  have b_is_part_of := F_is_part_of.binds (ps := ["self", "p", "i"]) fun _ _ _ _ _ _ us hl => match us, hl with | [_, _, _], _ => rfl
  obtain ⟨fd_share_instance, F_share_instance⟩ := d_share_instance.fn
  have b_share_instance := F_share_instance.binds (ps := ["self", "numbers"]) fun _ _ _ _ _ _ us hl => match us, hl with | [_, _], _ => rfl
  obtain ⟨fd_instance_of, F_instance_of⟩ := d_instance_of.fn
  have b_instance_of := F_instance_of.binds (ps := ["self", "p"]) fun _ _ _ _ _ _ us hl => match us, hl with | [_, _], _ => rfl
  obtain ⟨fd_back_part, F_back_part⟩ := d_back_part.fn
  have b_back_part := F_back_part.binds (ps := ["moves", "p"]) fun _ _ _ _ _ _ us hl => match us, hl with | [_, _], _ => rfl
  obtain ⟨fd_end_of_call, F_end_of_call⟩ := d_end_of_call.fn
  have b_end_of_call := F_end_of_call.binds (ps := ["calls", "at"]) fun _ _ _ _ _ _ us hl => match us, hl with | [_, _], _ => rfl
  obtain ⟨fd_what_make, F_what_make⟩ := d_what_make.fn
  have b_what_make := F_what_make.binds (ps := ["self", "f", "g"]) fun _ _ _ _ _ _ us hl => match us, hl with | [_, _, _], _ => rfl
  obtain ⟨fd_meeting_pairs, F_meeting_pairs⟩ := d_meeting_pairs.fn
  have b_meeting_pairs := F_meeting_pairs.binds (ps := ["self"]) fun _ _ _ _ _ _ us hl => match us, hl with | [_], _ => rfl
  obtain ⟨fd_joined_part, F_joined_part⟩ := d_joined_part.fn
  have b_joined_part := F_joined_part.binds (ps := ["instance", "p", "q"]) fun _ _ _ _ _ _ us hl => match us, hl with | [_, _, _], _ => rfl
  obtain ⟨fd_is_within, F_is_within⟩ := d_is_within.fn
  have b_is_within := F_is_within.binds (ps := ["p", "q"]) fun _ _ _ _ _ _ us hl => match us, hl with | [_, _], _ => rfl
  obtain ⟨fd_arrows_into, F_arrows_into⟩ := d_arrows_into.fn
  have b_arrows_into := F_arrows_into.binds (ps := ["instance", "row", "p"]) fun _ _ _ _ _ _ us hl => match us, hl with | [_, _, _], _ => rfl
  obtain ⟨fd_put_part, F_put_part⟩ := d_put_part.fn
  have b_put_part := F_put_part.binds (ps := ["line", "o", "part"]) fun _ _ _ _ _ _ us hl => match us, hl with | [_, _, _], _ => rfl
  obtain ⟨fd_ties_closed_by, F_ties_closed_by⟩ := d_ties_closed_by.fn
  have b_ties_closed_by := F_ties_closed_by.binds (ps := ["source", "rows", "k"]) fun _ _ _ _ _ _ us hl => match us, hl with | [_, _, _], _ => rfl
  obtain ⟨fd_longer_maps, F_longer_maps⟩ := d_longer_maps.fn
  have b_longer_maps := F_longer_maps.binds (ps := ["found", "target", "size", "ties"]) fun _ _ _ _ _ _ us hl => match us, hl with | [_, _, _, _], _ => rfl
  obtain ⟨fd_initInstance, F_initInstance⟩ := d_initInstance.fn
  have b_initInstance := F_initInstance.binds (ps := ["self", "category"]) fun _ _ _ _ _ _ us hl => match us, hl with | [_, _], _ => rfl
  obtain ⟨fd_tell_size, F_tell_size⟩ := d_tell_size.fn
  have b_tell_size := F_tell_size.binds (ps := ["self", "x", "k"]) fun _ _ _ _ _ _ us hl => match us, hl with | [_, _, _], _ => rfl
  obtain ⟨fd_led_to, F_led_to⟩ := d_led_to.fn
  have b_led_to := F_led_to.binds (ps := ["self", "row"]) fun _ _ _ _ _ _ us hl => match us, hl with | [_, _], _ => rfl
  obtain ⟨fd_first_gap, F_first_gap⟩ := d_first_gap.fn
  have b_first_gap := F_first_gap.binds (ps := ["self"]) fun _ _ _ _ _ _ us hl => match us, hl with | [_], _ => rfl
  obtain ⟨fd_call_set, F_call_set⟩ := d_call_set.fn
  have b_call_set := F_call_set.binds (ps := ["line", "i", "f", "r", "v"]) fun _ _ _ _ _ _ us hl => match us, hl with | [_, _, _, _, _], _ => rfl
  obtain ⟨fd_moves_of_map, F_moves_of_map⟩ := d_moves_of_map.fn
  have b_moves_of_map := F_moves_of_map.binds (ps := ["source", "numbers"]) fun _ _ _ _ _ _ us hl => match us, hl with | [_, _], _ => rfl
  obtain ⟨fd_forward_part, F_forward_part⟩ := d_forward_part.fn
  have b_forward_part := F_forward_part.binds (ps := ["target", "moves", "p"]) fun _ _ _ _ _ _ us hl => match us, hl with | [_, _, _], _ => rfl
  obtain ⟨fd_refusal_along, F_refusal_along⟩ := d_refusal_along.fn
  have b_refusal_along := F_refusal_along.binds (ps := ["line", "p", "i", "o", "j"]) fun _ _ _ _ _ _ us hl => match us, hl with | [_, _, _, _, _], _ => rfl
  obtain ⟨fd_call_shows, F_call_shows⟩ := d_call_shows.fn
  have b_call_shows := F_call_shows.binds (ps := ["line", "p"]) fun _ _ _ _ _ _ us hl => match us, hl with | [_, _], _ => rfl
  obtain ⟨fd_makes_fit, F_makes_fit⟩ := d_makes_fit.fn
  have b_makes_fit := F_makes_fit.binds (ps := ["self", "f", "g"]) fun _ _ _ _ _ _ us hl => match us, hl with | [_, _, _], _ => rfl
  obtain ⟨fd_is_same_taken, F_is_same_taken⟩ := d_is_same_taken.fn
  have b_is_same_taken := F_is_same_taken.binds (ps := ["self", "f", "g", "h"]) fun _ _ _ _ _ _ us hl => match us, hl with | [_, _, _, _], _ => rfl
  obtain ⟨fd_brought_part, F_brought_part⟩ := d_brought_part.fn
  have b_brought_part := F_brought_part.binds (ps := ["instance", "rows"]) fun _ _ _ _ _ _ us hl => match us, hl with | [_, _], _ => rfl
  obtain ⟨fd_row_implies, F_row_implies⟩ := d_row_implies.fn
  have b_row_implies := F_row_implies.binds (ps := ["instance", "row", "p", "q"]) fun _ _ _ _ _ _ us hl => match us, hl with | [_, _, _, _], _ => rfl
  obtain ⟨fd_is_part, F_is_part⟩ := d_is_part.fn
  have b_is_part := F_is_part.binds (ps := ["instance", "rows"]) fun _ _ _ _ _ _ us hl => match us, hl with | [_, _], _ => rfl
  obtain ⟨fd_is_closed, F_is_closed⟩ := d_is_closed.fn
  have b_is_closed := F_is_closed.binds (ps := ["category", "some"]) fun _ _ _ _ _ _ us hl => match us, hl with | [_, _], _ => rfl
  obtain ⟨fd_maps_between, F_maps_between⟩ := d_maps_between.fn
  have b_maps_between := F_maps_between.binds (ps := ["source", "target"]) fun _ _ _ _ _ _ us hl => match us, hl with | [_, _], _ => rfl
  obtain ⟨fd_first_detour, F_first_detour⟩ := d_first_detour.fn
  have b_first_detour := F_first_detour.binds (ps := ["self"]) fun _ _ _ _ _ _ us hl => match us, hl with | [_], _ => rfl
  obtain ⟨fd_call_rows, F_call_rows⟩ := d_call_rows.fn
  have b_call_rows := F_call_rows.binds (ps := ["line", "i", "x", "k"]) fun _ _ _ _ _ _ us hl => match us, hl with | [_, _, _, _], _ => rfl
  obtain ⟨fd_leads_to_none, F_leads_to_none⟩ := d_leads_to_none.fn
  have b_leads_to_none := F_leads_to_none.binds (ps := ["target", "row", "missed"]) fun _ _ _ _ _ _ us hl => match us, hl with | [_, _, _], _ => rfl
  obtain ⟨fd_chosen_moves, F_chosen_moves⟩ := d_chosen_moves.fn
  have b_chosen_moves := F_chosen_moves.binds (ps := ["line"]) fun _ _ _ _ _ _ us hl => match us, hl with | [_], _ => rfl
  obtain ⟨fd_call_within, F_call_within⟩ := d_call_within.fn
  have b_call_within := F_call_within.binds (ps := ["line", "p", "q"]) fun _ _ _ _ _ _ us hl => match us, hl with | [_, _, _], _ => rfl
  obtain ⟨fd_is_category, F_is_category⟩ := d_is_category.fn
  have b_is_category := F_is_category.binds (ps := ["self"]) fun _ _ _ _ _ _ us hl => match us, hl with | [_], _ => rfl
  obtain ⟨fd_implied_part, F_implied_part⟩ := d_implied_part.fn
  have b_implied_part := F_implied_part.binds (ps := ["instance", "p", "q"]) fun _ _ _ _ _ _ us hl => match us, hl with | [_, _, _], _ => rfl
  obtain ⟨fd_all_parts, F_all_parts⟩ := d_all_parts.fn
  have b_all_parts := F_all_parts.binds (ps := ["instance"]) fun _ _ _ _ _ _ us hl => match us, hl with | [_], _ => rfl
  obtain ⟨fd_closed_sets, F_closed_sets⟩ := d_closed_sets.fn
  have b_closed_sets := F_closed_sets.binds (ps := ["category", "x"]) fun _ _ _ _ _ _ us hl => match us, hl with | [_, _], _ => rfl
  obtain ⟨fd_first_fault, F_first_fault⟩ := d_first_fault.fn
  have b_first_fault := F_first_fault.binds (ps := ["self"]) fun _ _ _ _ _ _ us hl => match us, hl with | [_], _ => rfl
  obtain ⟨fd_forget_rows, F_forget_rows⟩ := d_forget_rows.fn
  have b_forget_rows := F_forget_rows.binds (ps := ["self"]) fun _ _ _ _ _ _ us hl => match us, hl with | [_], _ => rfl
  obtain ⟨fd_for_all_part, F_for_all_part⟩ := d_for_all_part.fn
  have b_for_all_part := F_for_all_part.binds (ps := ["target", "moves", "p"]) fun _ _ _ _ _ _ us hl => match us, hl with | [_, _, _], _ => rfl
  obtain ⟨fd_call_forward, F_call_forward⟩ := d_call_forward.fn
  have b_call_forward := F_call_forward.binds (ps := ["line", "p", "o"]) fun _ _ _ _ _ _ us hl => match us, hl with | [_, _, _], _ => rfl
  obtain ⟨fd_call_back, F_call_back⟩ := d_call_back.fn
  have b_call_back := F_call_back.binds (ps := ["line", "p", "o"]) fun _ _ _ _ _ _ us hl => match us, hl with | [_, _, _], _ => rfl
  obtain ⟨fd_call_start, F_call_start⟩ := d_call_start.fn
  have b_call_start := F_call_start.binds (ps := ["line", "n"]) fun _ _ _ _ _ _ us hl => match us, hl with | [_, _], _ => rfl
  obtain ⟨fd_call_arrow, F_call_arrow⟩ := d_call_arrow.fn
  have b_call_arrow := F_call_arrow.binds (ps := ["line", "x", "y"]) fun _ _ _ _ _ _ us hl => match us, hl with | [_, _, _], _ => rfl
  obtain ⟨fd_call_make, F_call_make⟩ := d_call_make.fn
  have b_call_make := F_call_make.binds (ps := ["line", "f", "g", "h"]) fun _ _ _ _ _ _ us hl => match us, hl with | [_, _, _, _], _ => rfl
  obtain ⟨fd_not_part, F_not_part⟩ := d_not_part.fn
  have b_not_part := F_not_part.binds (ps := ["instance", "p"]) fun _ _ _ _ _ _ us hl => match us, hl with | [_, _], _ => rfl
  obtain ⟨fd_call_sieves, F_call_sieves⟩ := d_call_sieves.fn
  have b_call_sieves := F_call_sieves.binds (ps := ["line", "x"]) fun _ _ _ _ _ _ us hl => match us, hl with | [_, _], _ => rfl
  obtain ⟨fd_is_right, F_is_right⟩ := d_is_right.fn
  have b_is_right := F_is_right.binds (ps := ["self"]) fun _ _ _ _ _ _ us hl => match us, hl with | [_], _ => rfl
  obtain ⟨fd_call_check, F_call_check⟩ := d_call_check.fn
  have b_call_check := F_call_check.binds (ps := ["line", "i"]) fun _ _ _ _ _ _ us hl => match us, hl with | [_, _], _ => rfl
  obtain ⟨fd_initLine, F_initLine⟩ := d_initLine.fn
  have b_initLine := F_initLine.binds (ps := ["self"]) fun _ _ _ _ _ _ us hl => match us, hl with | [_], _ => rfl
  obtain ⟨fd_call_for_all, F_call_for_all⟩ := d_call_for_all.fn
  have b_call_for_all := F_call_for_all.binds (ps := ["line", "p", "o"]) fun _ _ _ _ _ _ us hl => match us, hl with | [_, _, _], _ => rfl
  obtain ⟨fd_rows_between, F_rows_between⟩ := d_rows_between.fn
  have b_rows_between := F_rows_between.binds (ps := ["instance", "p"]) fun _ _ _ _ _ _ us hl => match us, hl with | [_, _], _ => rfl
  obtain ⟨fd_refusal_of_parts, F_refusal_of_parts⟩ := d_refusal_of_parts.fn
  have b_refusal_of_parts := F_refusal_of_parts.binds (ps := ["line", "numbers"]) fun _ _ _ _ _ _ us hl => match us, hl with | [_, _], _ => rfl
  obtain ⟨fd_call_count, F_call_count⟩ := d_call_count.fn
  have b_call_count := F_call_count.binds (ps := ["line", "i"]) fun _ _ _ _ _ _ us hl => match us, hl with | [_, _], _ => rfl
  obtain ⟨fd_call_way, F_call_way⟩ := d_call_way.fn
  have b_call_way := F_call_way.binds (ps := ["line", "k"]) fun _ _ _ _ _ _ us hl => match us, hl with | [_, _], _ => rfl
  obtain ⟨fd_answer_of_category_call, F_answer_of_category_call⟩ := d_answer_of_category_call.fn
  have b_answer_of_category_call := F_answer_of_category_call.binds (ps := ["line", "call", "given"]) fun _ _ _ _ _ _ us hl => match us, hl with | [_, _, _], _ => rfl
  obtain ⟨fd_answer_of_map_call, F_answer_of_map_call⟩ := d_answer_of_map_call.fn
  have b_answer_of_map_call := F_answer_of_map_call.binds (ps := ["line", "call", "given"]) fun _ _ _ _ _ _ us hl => match us, hl with | [_, _, _], _ => rfl
  obtain ⟨fd_call_part, F_call_part⟩ := d_call_part.fn
  have b_call_part := F_call_part.binds (ps := ["line", "p", "numbers"]) fun _ _ _ _ _ _ us hl => match us, hl with | [_, _, _], _ => rfl
  obtain ⟨fd_call_meet, F_call_meet⟩ := d_call_meet.fn
  have b_call_meet := F_call_meet.binds (ps := ["line", "p", "q", "o"]) fun _ _ _ _ _ _ us hl => match us, hl with | [_, _, _, _], _ => rfl
  obtain ⟨fd_call_join, F_call_join⟩ := d_call_join.fn
  have b_call_join := F_call_join.binds (ps := ["line", "p", "q", "o"]) fun _ _ _ _ _ _ us hl => match us, hl with | [_, _, _, _], _ => rfl
  obtain ⟨fd_call_implies, F_call_implies⟩ := d_call_implies.fn
  have b_call_implies := F_call_implies.binds (ps := ["line", "p", "q", "o"]) fun _ _ _ _ _ _ us hl => match us, hl with | [_, _, _, _], _ => rfl
  obtain ⟨fd_call_not, F_call_not⟩ := d_call_not.fn
  have b_call_not := F_call_not.binds (ps := ["line", "p", "o"]) fun _ _ _ _ _ _ us hl => match us, hl with | [_, _, _], _ => rfl
  obtain ⟨fd_call_nth, F_call_nth⟩ := d_call_nth.fn
  have b_call_nth := F_call_nth.binds (ps := ["line", "p", "k"]) fun _ _ _ _ _ _ us hl => match us, hl with | [_, _, _], _ => rfl
  obtain ⟨fd_call_truth, F_call_truth⟩ := d_call_truth.fn
  have b_call_truth := F_call_truth.binds (ps := ["line", "p", "x", "r"]) fun _ _ _ _ _ _ us hl => match us, hl with | [_, _, _, _], _ => rfl
  obtain ⟨fd_call_between, F_call_between⟩ := d_call_between.fn
  have b_call_between := F_call_between.binds (ps := ["line", "p"]) fun _ _ _ _ _ _ us hl => match us, hl with | [_, _], _ => rfl
  obtain ⟨fd_answer_of_instance_call, F_answer_of_instance_call⟩ := d_answer_of_instance_call.fn
  have b_answer_of_instance_call := F_answer_of_instance_call.binds (ps := ["line", "call", "given"]) fun _ _ _ _ _ _ us hl => match us, hl with | [_, _, _], _ => rfl
  obtain ⟨fd_answer_of_part_call, F_answer_of_part_call⟩ := d_answer_of_part_call.fn
  have b_answer_of_part_call := F_answer_of_part_call.binds (ps := ["line", "call", "given"]) fun _ _ _ _ _ _ us hl => match us, hl with | [_, _, _], _ => rfl
  obtain ⟨fd_answer_of_counting_call, F_answer_of_counting_call⟩ := d_answer_of_counting_call.fn
  have b_answer_of_counting_call := F_answer_of_counting_call.binds (ps := ["line", "call", "given"]) fun _ _ _ _ _ _ us hl => match us, hl with | [_, _, _], _ => rfl
  obtain ⟨fd_answer_of_truth_call, F_answer_of_truth_call⟩ := d_answer_of_truth_call.fn
  have b_answer_of_truth_call := F_answer_of_truth_call.binds (ps := ["line", "call", "given"]) fun _ _ _ _ _ _ us hl => match us, hl with | [_, _, _], _ => rfl
  obtain ⟨fd_answer_of, F_answer_of⟩ := d_answer_of.fn
  have b_answer_of := F_answer_of.binds (ps := ["line", "call", "given"]) fun _ _ _ _ _ _ us hl => match us, hl with | [_, _, _], _ => rfl
  obtain ⟨fd_answers, F_answers⟩ := d_answers.fn
  have b_answers := F_answers.binds (ps := ["calls"]) fun _ _ _ _ _ _ us hl => match us, hl with | [_], _ => rfl
  refine ⟨fd_answers, fun s us hu => ?_, fun base _ _ => ?_⟩
  · obtain ⟨oc, od, kV, doc, pm, an, cdv, ct, osl, rfl, lk, hcd⟩ := F_answers.ex
    exact match us, hu with | [_], _ => .of_eq rfl
  have g_initCategory : NewOk P w K mg base CC 1 ["self", "things"] (sp_initCategory CC CI CL) := ⟨_, _, ⟨mkCC, a_initCategory, i_initCategory, kcCC⟩, b_initCategory, ok_initCategory F_initCategory T⟩
  have g_arrow_count : MetOk P w K mg base CC 1 "arrow_count" ["self"] (sp_arrow_count CC CI CL) := ⟨_, _, ⟨a_arrow_count, i_arrow_count, F_arrow_count.kp⟩, b_arrow_count, ok_arrow_count F_arrow_count T⟩
  have g_add_arrow : MetOk P w K mg base CC 1 "add_arrow" ["self", "x", "y"] (sp_add_arrow CC CI CL) := ⟨_, _, ⟨a_add_arrow, i_add_arrow, F_add_arrow.kp⟩, b_add_arrow, ok_add_arrow F_add_arrow T⟩
  have g_is_own : MetOk P w K mg base CC 1 "is_own" ["self", "f"] (sp_is_own CC CI CL) := ⟨_, _, ⟨a_is_own, i_is_own, F_is_own.kp⟩, b_is_own, ok_is_own F_is_own T⟩
  have g_told_arrows : MetOk P w K mg base CC 1 "told_arrows" ["self"] (sp_told_arrows CC CI CL) := ⟨_, _, ⟨a_told_arrows, i_told_arrows, F_told_arrows.kp⟩, b_told_arrows, ok_told_arrows F_told_arrows T⟩
  have g_arrows_from : MetOk P w K mg base CC 1 "arrows_from" ["self", "x"] (sp_arrows_from CC CI CL) := ⟨_, _, ⟨a_arrows_from, i_arrows_from, F_arrows_from.kp⟩, b_arrows_from, ok_arrows_from F_arrows_from T⟩
  have g_do_meet : MetOk P w K mg base CC 1 "do_meet" ["self", "f", "g"] (sp_do_meet CC CI CL) := ⟨_, _, ⟨a_do_meet, i_do_meet, F_do_meet.kp⟩, b_do_meet, ok_do_meet F_do_meet T⟩
  have g_tell_made : MetOk P w K mg base CC 1 "tell_made" ["self", "f", "g", "h"] (sp_tell_made CC CI CL) := ⟨_, _, ⟨a_tell_made, i_tell_made, F_tell_made.kp⟩, b_tell_made, ok_tell_made F_tell_made T⟩
  have g_all_choices : DefOk P w K mg base 1 "all_choices" ["members"] (sp_all_choices CC CI CL) := ⟨_, _, PySem.W.mg_of X G a_all_choices, F_all_choices.kp, b_all_choices, ok_all_choices F_all_choices T⟩
  have g_met_part : DefOk P w K mg base 1 "met_part" ["p", "q"] (sp_met_part CC CI CL) := ⟨_, _, PySem.W.mg_of X G a_met_part, F_met_part.kp, b_met_part, ok_met_part F_met_part T⟩
  have g_told_part : DefOk P w K mg base 1 "told_part" ["part"] (sp_told_part CC CI CL) := ⟨_, _, PySem.W.mg_of X G a_told_part, F_told_part.kp, b_told_part, ok_told_part F_told_part T⟩
  have g_keeps_ties : DefOk P w K mg base 1 "keeps_ties" ["target", "taken", "ties"] (sp_keeps_ties CC CI CL) := ⟨_, _, PySem.W.mg_of X G a_keeps_ties, F_keeps_ties.kp, b_keeps_ties, ok_keeps_ties F_keeps_ties T⟩
  have g_has_row : MetOk P w K mg base CI 1 "has_row" ["self", "x", "r"] (sp_has_row CC CI CL) := ⟨_, _, ⟨a_has_row, i_has_row, F_has_row.kp⟩, b_has_row, ok_has_row F_has_row T⟩
  have g_all_rows : MetOk P w K mg base CI 1 "all_rows" ["self"] (sp_all_rows CC CI CL) := ⟨_, _, ⟨a_all_rows, i_all_rows, F_all_rows.kp⟩, b_all_rows, ok_all_rows F_all_rows T⟩
  have g_led_along : MetOk P w K mg base CI 1 "led_along" ["self", "f", "row"] (sp_led_along CC CI CL) := ⟨_, _, ⟨a_led_along, i_led_along, F_led_along.kp⟩, b_led_along, ok_led_along F_led_along T⟩
  have g_forget_parts : MetOk P w K mg base CL 1 "forget_parts" ["self", "i"] (sp_forget_parts CC CI CL) := ⟨_, _, ⟨a_forget_parts, i_forget_parts, F_forget_parts.kp⟩, b_forget_parts, ok_forget_parts F_forget_parts T⟩
  have g_has_instance : MetOk P w K mg base CL 1 "has_instance" ["self", "i"] (sp_has_instance CC CI CL) := ⟨_, _, ⟨a_has_instance, i_has_instance, F_has_instance.kp⟩, b_has_instance, ok_has_instance F_has_instance T⟩
  have g_is_part_of : MetOk P w K mg base CL 1 "is_part_of" ["self", "p", "i"] (sp_is_part_of CC CI CL) := ⟨_, _, ⟨a_is_part_of, i_is_part_of, F_is_part_of.kp⟩, b_is_part_of, ok_is_part_of F_is_part_of T⟩
  have g_share_instance : MetOk P w K mg base CL 1 "share_instance" ["self", "numbers"] (sp_share_instance CC CI CL) := ⟨_, _, ⟨a_share_instance, i_share_instance, F_share_instance.kp⟩, b_share_instance, ok_share_instance F_share_instance T⟩
  have g_instance_of : MetOk P w K mg base CL 1 "instance_of" ["self", "p"] (sp_instance_of CC CI CL) := ⟨_, _, ⟨a_instance_of, i_instance_of, F_instance_of.kp⟩, b_instance_of, ok_instance_of F_instance_of T⟩
  have g_back_part : DefOk P w K mg base 1 "back_part" ["moves", "p"] (sp_back_part CC CI CL) := ⟨_, _, PySem.W.mg_of X G a_back_part, F_back_part.kp, b_back_part, ok_back_part F_back_part T⟩
  have g_end_of_call : DefOk P w K mg base 1 "end_of_call" ["calls", "at"] (sp_end_of_call K CC CI CL) := ⟨_, _, PySem.W.mg_of X G a_end_of_call, F_end_of_call.kp, b_end_of_call, ok_end_of_call F_end_of_call T⟩
  have g_what_make : MetOk P w K mg base CC 2 "what_make" ["self", "f", "g"] (sp_what_make CC CI CL) := ⟨_, _, ⟨a_what_make, i_what_make, F_what_make.kp⟩, b_what_make, ok_what_make F_what_make T g_is_own⟩
  have g_meeting_pairs : MetOk P w K mg base CC 2 "meeting_pairs" ["self"] (sp_meeting_pairs CC CI CL) := ⟨_, _, ⟨a_meeting_pairs, i_meeting_pairs, F_meeting_pairs.kp⟩, b_meeting_pairs, ok_meeting_pairs F_meeting_pairs T g_told_arrows g_do_meet⟩
  have g_joined_part : DefOk P w K mg base 2 "joined_part" ["instance", "p", "q"] (sp_joined_part CC CI CL) := ⟨_, _, PySem.W.mg_of X G a_joined_part, F_joined_part.kp, b_joined_part, ok_joined_part F_joined_part T g_all_rows⟩
  have g_is_within : DefOk P w K mg base 2 "is_within" ["p", "q"] (sp_is_within CC CI CL) := ⟨_, _, PySem.W.mg_of X G a_is_within, F_is_within.kp, b_is_within, ok_is_within F_is_within T g_met_part⟩
  have g_arrows_into : DefOk P w K mg base 2 "arrows_into" ["instance", "row", "p"] (sp_arrows_into CC CI CL) := ⟨_, _, PySem.W.mg_of X G a_arrows_into, F_arrows_into.kp, b_arrows_into, ok_arrows_into F_arrows_into T g_led_along g_arrows_from⟩
  have g_put_part : DefOk P w K mg base 2 "put_part" ["line", "o", "part"] (sp_put_part CC CI CL) := ⟨_, _, PySem.W.mg_of X G a_put_part, F_put_part.kp, b_put_part, ok_put_part F_put_part T g_told_part⟩
  have g_ties_closed_by : DefOk P w K mg base 2 "ties_closed_by" ["source", "rows", "k"] (sp_ties_closed_by CC CI CL) := ⟨_, _, PySem.W.mg_of X G a_ties_closed_by, F_ties_closed_by.kp, b_ties_closed_by, ok_ties_closed_by F_ties_closed_by T g_arrows_from⟩
  have g_longer_maps : DefOk P w K mg base 2 "longer_maps" ["found", "target", "size", "ties"] (sp_longer_maps CC CI CL) := ⟨_, _, PySem.W.mg_of X G a_longer_maps, F_longer_maps.kp, b_longer_maps, ok_longer_maps F_longer_maps T g_keeps_ties⟩
  have g_initInstance : NewOk P w K mg base CI 2 ["self", "category"] (sp_initInstance CC CI CL) := ⟨_, _, ⟨mkCI, a_initInstance, i_initInstance, kcCI⟩, b_initInstance, ok_initInstance F_initInstance T g_arrow_count⟩
  have g_tell_size : MetOk P w K mg base CI 2 "tell_size" ["self", "x", "k"] (sp_tell_size CC CI CL) := ⟨_, _, ⟨a_tell_size, i_tell_size, F_tell_size.kp⟩, b_tell_size, ok_tell_size F_tell_size T g_told_arrows⟩
  have g_led_to : MetOk P w K mg base CI 2 "led_to" ["self", "row"] (sp_led_to CC CI CL) := ⟨_, _, ⟨a_led_to, i_led_to, F_led_to.kp⟩, b_led_to, ok_led_to F_led_to T g_arrows_from g_led_along⟩
  have g_first_gap : MetOk P w K mg base CI 2 "first_gap" ["self"] (sp_first_gap CC CI CL) := ⟨_, _, ⟨a_first_gap, i_first_gap, F_first_gap.kp⟩, b_first_gap, ok_first_gap F_first_gap T g_told_arrows⟩
  have g_call_set : DefOk P w K mg base 2 "call_set" ["line", "i", "f", "r", "v"] (sp_call_set CC CI CL) := ⟨_, _, PySem.W.mg_of X G a_call_set, F_call_set.kp, b_call_set, ok_call_set F_call_set T g_forget_parts g_has_row g_is_own g_arrow_count g_has_instance⟩
  have g_moves_of_map : DefOk P w K mg base 2 "moves_of_map" ["source", "numbers"] (sp_moves_of_map CC CI CL) := ⟨_, _, PySem.W.mg_of X G a_moves_of_map, F_moves_of_map.kp, b_moves_of_map, ok_moves_of_map F_moves_of_map T g_all_rows⟩
  have g_forward_part : DefOk P w K mg base 2 "forward_part" ["target", "moves", "p"] (sp_forward_part CC CI CL) := ⟨_, _, PySem.W.mg_of X G a_forward_part, F_forward_part.kp, b_forward_part, ok_forward_part F_forward_part T g_all_rows⟩
  have g_refusal_along : DefOk P w K mg base 2 "refusal_along" ["line", "p", "i", "o", "j"] (sp_refusal_along CC CI CL) := ⟨_, _, PySem.W.mg_of X G a_refusal_along, F_refusal_along.kp, b_refusal_along, ok_refusal_along F_refusal_along T g_is_part_of⟩
  have g_call_shows : DefOk P w K mg base 2 "call_shows" ["line", "p"] (sp_call_shows CC CI CL) := ⟨_, _, PySem.W.mg_of X G a_call_shows, F_call_shows.kp, b_call_shows, ok_call_shows F_call_shows T g_told_part g_share_instance⟩
  have g_makes_fit : MetOk P w K mg base CC 3 "makes_fit" ["self", "f", "g"] (sp_makes_fit CC CI CL) := ⟨_, _, ⟨a_makes_fit, i_makes_fit, F_makes_fit.kp⟩, b_makes_fit, ok_makes_fit F_makes_fit T g_what_make⟩
  have g_is_same_taken : MetOk P w K mg base CC 3 "is_same_taken" ["self", "f", "g", "h"] (sp_is_same_taken CC CI CL) := ⟨_, _, ⟨a_is_same_taken, i_is_same_taken, F_is_same_taken.kp⟩, b_is_same_taken, ok_is_same_taken F_is_same_taken T g_what_make⟩
  have g_brought_part : DefOk P w K mg base 3 "brought_part" ["instance", "rows"] (sp_brought_part CC CI CL) := ⟨_, _, PySem.W.mg_of X G a_brought_part, F_brought_part.kp, b_brought_part, ok_brought_part F_brought_part T g_all_rows g_led_to⟩
  have g_row_implies : DefOk P w K mg base 3 "row_implies" ["instance", "row", "p", "q"] (sp_row_implies CC CI CL) := ⟨_, _, PySem.W.mg_of X G a_row_implies, F_row_implies.kp, b_row_implies, ok_row_implies F_row_implies T g_led_to⟩
  have g_is_part : DefOk P w K mg base 3 "is_part" ["instance", "rows"] (sp_is_part CC CI CL) := ⟨_, _, PySem.W.mg_of X G a_is_part, F_is_part.kp, b_is_part, ok_is_part F_is_part T g_is_within g_led_to⟩
  have g_is_closed : DefOk P w K mg base 3 "is_closed" ["category", "some"] (sp_is_closed CC CI CL) := ⟨_, _, PySem.W.mg_of X G a_is_closed, F_is_closed.kp, b_is_closed, ok_is_closed F_is_closed T g_arrows_from g_what_make⟩
  have g_maps_between : DefOk P w K mg base 3 "maps_between" ["source", "target"] (sp_maps_between CC CI CL) := ⟨_, _, PySem.W.mg_of X G a_maps_between, F_maps_between.kp, b_maps_between, ok_maps_between F_maps_between T g_longer_maps g_ties_closed_by g_all_rows⟩
  have g_first_detour : MetOk P w K mg base CI 3 "first_detour" ["self"] (sp_first_detour CC CI CL) := ⟨_, _, ⟨a_first_detour, i_first_detour, F_first_detour.kp⟩, b_first_detour, ok_first_detour F_first_detour T g_meeting_pairs g_what_make⟩
  have g_call_rows : DefOk P w K mg base 3 "call_rows" ["line", "i", "x", "k"] (sp_call_rows CC CI CL) := ⟨_, _, PySem.W.mg_of X G a_call_rows, F_call_rows.kp, b_call_rows, ok_call_rows F_call_rows T g_forget_parts g_tell_size g_has_instance⟩
  have g_leads_to_none : DefOk P w K mg base 3 "leads_to_none" ["target", "row", "missed"] (sp_leads_to_none CC CI CL) := ⟨_, _, PySem.W.mg_of X G a_leads_to_none, F_leads_to_none.kp, b_leads_to_none, ok_leads_to_none F_leads_to_none T g_led_to⟩
  have g_chosen_moves : DefOk P w K mg base 3 "chosen_moves" ["line"] (sp_chosen_moves CC CI CL) := ⟨_, _, PySem.W.mg_of X G a_chosen_moves, F_chosen_moves.kp, b_chosen_moves, ok_chosen_moves F_chosen_moves T g_moves_of_map⟩
  have g_call_within : DefOk P w K mg base 3 "call_within" ["line", "p", "q"] (sp_call_within CC CI CL) := ⟨_, _, PySem.W.mg_of X G a_call_within, F_call_within.kp, b_call_within, ok_call_within F_call_within T g_is_within g_share_instance⟩
  have g_is_category : MetOk P w K mg base CC 4 "is_category" ["self"] (sp_is_category CC CI CL) := ⟨_, _, ⟨a_is_category, i_is_category, F_is_category.kp⟩, b_is_category, ok_is_category F_is_category T g_told_arrows g_is_same_taken g_do_meet g_makes_fit g_meeting_pairs⟩
  have g_implied_part : DefOk P w K mg base 4 "implied_part" ["instance", "p", "q"] (sp_implied_part CC CI CL) := ⟨_, _, PySem.W.mg_of X G a_implied_part, F_implied_part.kp, b_implied_part, ok_implied_part F_implied_part T g_row_implies g_all_rows⟩
  have g_all_parts : DefOk P w K mg base 4 "all_parts" ["instance"] (sp_all_parts CC CI CL) := ⟨_, _, PySem.W.mg_of X G a_all_parts, F_all_parts.kp, b_all_parts, ok_all_parts F_all_parts T g_is_part g_all_choices g_all_rows⟩
  have g_closed_sets : DefOk P w K mg base 4 "closed_sets" ["category", "x"] (sp_closed_sets CC CI CL) := ⟨_, _, PySem.W.mg_of X G a_closed_sets, F_closed_sets.kp, b_closed_sets, ok_closed_sets F_closed_sets T g_is_closed g_all_choices g_arrows_from⟩
  have g_first_fault : MetOk P w K mg base CI 4 "first_fault" ["self"] (sp_first_fault CC CI CL) := ⟨_, _, ⟨a_first_fault, i_first_fault, F_first_fault.kp⟩, b_first_fault, ok_first_fault F_first_fault T g_first_detour g_first_gap⟩
  have g_forget_rows : MetOk P w K mg base CL 4 "forget_rows" ["self"] (sp_forget_rows CC CI CL) := ⟨_, _, ⟨a_forget_rows, i_forget_rows, F_forget_rows.kp⟩, b_forget_rows, ok_forget_rows F_forget_rows T g_initInstance⟩
  have g_for_all_part : DefOk P w K mg base 4 "for_all_part" ["target", "moves", "p"] (sp_for_all_part CC CI CL) := ⟨_, _, PySem.W.mg_of X G a_for_all_part, F_for_all_part.kp, b_for_all_part, ok_for_all_part F_for_all_part T g_leads_to_none g_all_rows⟩
  have g_call_forward : DefOk P w K mg base 4 "call_forward" ["line", "p", "o"] (sp_call_forward CC CI CL) := ⟨_, _, PySem.W.mg_of X G a_call_forward, F_call_forward.kp, b_call_forward, ok_call_forward F_call_forward T g_put_part g_forward_part g_chosen_moves g_refusal_along⟩
  have g_call_back : DefOk P w K mg base 4 "call_back" ["line", "p", "o"] (sp_call_back CC CI CL) := ⟨_, _, PySem.W.mg_of X G a_call_back, F_call_back.kp, b_call_back, ok_call_back F_call_back T g_put_part g_back_part g_chosen_moves g_refusal_along⟩
  have g_call_start : DefOk P w K mg base 5 "call_start" ["line", "n"] (sp_call_start CC CI CL) := ⟨_, _, PySem.W.mg_of X G a_call_start, F_call_start.kp, b_call_start, ok_call_start F_call_start T g_forget_rows g_initCategory⟩
  have g_call_arrow : DefOk P w K mg base 5 "call_arrow" ["line", "x", "y"] (sp_call_arrow CC CI CL) := ⟨_, _, PySem.W.mg_of X G a_call_arrow, F_call_arrow.kp, b_call_arrow, ok_call_arrow F_call_arrow T g_forget_rows g_add_arrow g_arrow_count⟩
  have g_call_make : DefOk P w K mg base 5 "call_make" ["line", "f", "g", "h"] (sp_call_make CC CI CL) := ⟨_, _, PySem.W.mg_of X G a_call_make, F_call_make.kp, b_call_make, ok_call_make F_call_make T g_forget_rows g_tell_made g_do_meet g_is_own g_arrow_count⟩
  have g_not_part : DefOk P w K mg base 5 "not_part" ["instance", "p"] (sp_not_part CC CI CL) := ⟨_, _, PySem.W.mg_of X G a_not_part, F_not_part.kp, b_not_part, ok_not_part F_not_part T g_implied_part⟩
  have g_call_sieves : DefOk P w K mg base 5 "call_sieves" ["line", "x"] (sp_call_sieves CC CI CL) := ⟨_, _, PySem.W.mg_of X G a_call_sieves, F_call_sieves.kp, b_call_sieves, ok_call_sieves F_call_sieves T g_closed_sets g_is_category⟩
  have g_is_right : MetOk P w K mg base CI 5 "is_right" ["self"] (sp_is_right CC CI CL) := ⟨_, _, ⟨a_is_right, i_is_right, F_is_right.kp⟩, b_is_right, ok_is_right F_is_right T g_first_fault g_is_category⟩
  have g_call_check : DefOk P w K mg base 5 "call_check" ["line", "i"] (sp_call_check CC CI CL) := ⟨_, _, PySem.W.mg_of X G a_call_check, F_call_check.kp, b_call_check, ok_call_check F_call_check T g_first_fault g_is_category g_has_instance⟩
  have g_initLine : NewOk P w K mg base CL 5 ["self"] (sp_initLine CC CI CL) := ⟨_, _, ⟨mkCL, a_initLine, i_initLine, kcCL⟩, b_initLine, ok_initLine F_initLine T g_forget_rows g_initCategory⟩
  have g_call_for_all : DefOk P w K mg base 5 "call_for_all" ["line", "p", "o"] (sp_call_for_all CC CI CL) := ⟨_, _, PySem.W.mg_of X G a_call_for_all, F_call_for_all.kp, b_call_for_all, ok_call_for_all F_call_for_all T g_put_part g_for_all_part g_chosen_moves g_refusal_along⟩
  have g_rows_between : DefOk P w K mg base 6 "rows_between" ["instance", "p"] (sp_rows_between CC CI CL) := ⟨_, _, PySem.W.mg_of X G a_rows_between, F_rows_between.kp, b_rows_between, ok_rows_between F_rows_between T g_all_rows g_not_part⟩
  have g_refusal_of_parts : DefOk P w K mg base 6 "refusal_of_parts" ["line", "numbers"] (sp_refusal_of_parts CC CI CL) := ⟨_, _, PySem.W.mg_of X G a_refusal_of_parts, F_refusal_of_parts.kp, b_refusal_of_parts, ok_refusal_of_parts F_refusal_of_parts T g_is_right g_instance_of g_share_instance⟩
  have g_call_count : DefOk P w K mg base 6 "call_count" ["line", "i"] (sp_call_count CC CI CL) := ⟨_, _, PySem.W.mg_of X G a_call_count, F_call_count.kp, b_call_count, ok_call_count F_call_count T g_all_parts g_is_right g_has_instance⟩
  have g_call_way : DefOk P w K mg base 6 "call_way" ["line", "k"] (sp_call_way CC CI CL) := ⟨_, _, PySem.W.mg_of X G a_call_way, F_call_way.kp, b_call_way, ok_call_way F_call_way T g_maps_between g_is_right⟩
  have g_answer_of_category_call : DefOk P w K mg base 6 "answer_of_category_call" ["line", "call", "given"] (sp_answer_of_category_call CC CI CL) := ⟨_, _, PySem.W.mg_of X G a_answer_of_category_call, F_answer_of_category_call.kp, b_answer_of_category_call, ok_answer_of_category_call F_answer_of_category_call T g_call_make g_call_arrow g_call_start⟩
  have g_answer_of_map_call : DefOk P w K mg base 6 "answer_of_map_call" ["line", "call", "given"] (sp_answer_of_map_call CC CI CL) := ⟨_, _, PySem.W.mg_of X G a_answer_of_map_call, F_answer_of_map_call.kp, b_answer_of_map_call, ok_answer_of_map_call F_answer_of_map_call T g_call_for_all g_call_back g_call_forward⟩
  have g_call_part : DefOk P w K mg base 7 "call_part" ["line", "p", "numbers"] (sp_call_part CC CI CL) := ⟨_, _, PySem.W.mg_of X G a_call_part, F_call_part.kp, b_call_part, ok_call_part F_call_part T g_put_part g_brought_part g_has_row g_instance_of g_refusal_of_parts⟩
  have g_call_meet : DefOk P w K mg base 7 "call_meet" ["line", "p", "q", "o"] (sp_call_meet CC CI CL) := ⟨_, _, PySem.W.mg_of X G a_call_meet, F_call_meet.kp, b_call_meet, ok_call_meet F_call_meet T g_put_part g_met_part g_refusal_of_parts⟩
  have g_call_join : DefOk P w K mg base 7 "call_join" ["line", "p", "q", "o"] (sp_call_join CC CI CL) := ⟨_, _, PySem.W.mg_of X G a_call_join, F_call_join.kp, b_call_join, ok_call_join F_call_join T g_put_part g_joined_part g_instance_of g_refusal_of_parts⟩
  have g_call_implies : DefOk P w K mg base 7 "call_implies" ["line", "p", "q", "o"] (sp_call_implies CC CI CL) := ⟨_, _, PySem.W.mg_of X G a_call_implies, F_call_implies.kp, b_call_implies, ok_call_implies F_call_implies T g_put_part g_implied_part g_instance_of g_refusal_of_parts⟩
  have g_call_not : DefOk P w K mg base 7 "call_not" ["line", "p", "o"] (sp_call_not CC CI CL) := ⟨_, _, PySem.W.mg_of X G a_call_not, F_call_not.kp, b_call_not, ok_call_not F_call_not T g_put_part g_not_part g_instance_of g_refusal_of_parts⟩
  have g_call_nth : DefOk P w K mg base 7 "call_nth" ["line", "p", "k"] (sp_call_nth CC CI CL) := ⟨_, _, PySem.W.mg_of X G a_call_nth, F_call_nth.kp, b_call_nth, ok_call_nth F_call_nth T g_put_part g_all_parts g_instance_of g_refusal_of_parts⟩
  have g_call_truth : DefOk P w K mg base 7 "call_truth" ["line", "p", "x", "r"] (sp_call_truth CC CI CL) := ⟨_, _, PySem.W.mg_of X G a_call_truth, F_call_truth.kp, b_call_truth, ok_call_truth F_call_truth T g_arrows_into g_has_row g_instance_of g_refusal_of_parts⟩
  have g_call_between : DefOk P w K mg base 7 "call_between" ["line", "p"] (sp_call_between CC CI CL) := ⟨_, _, PySem.W.mg_of X G a_call_between, F_call_between.kp, b_call_between, ok_call_between F_call_between T g_told_part g_rows_between g_instance_of g_refusal_of_parts⟩
  have g_answer_of_instance_call : DefOk P w K mg base 7 "answer_of_instance_call" ["line", "call", "given"] (sp_answer_of_instance_call CC CI CL) := ⟨_, _, PySem.W.mg_of X G a_answer_of_instance_call, F_answer_of_instance_call.kp, b_answer_of_instance_call, ok_answer_of_instance_call F_answer_of_instance_call T g_call_way g_call_check g_call_set g_call_rows⟩
  have g_answer_of_part_call : DefOk P w K mg base 8 "answer_of_part_call" ["line", "call", "given"] (sp_answer_of_part_call CC CI CL) := ⟨_, _, PySem.W.mg_of X G a_answer_of_part_call, F_answer_of_part_call.kp, b_answer_of_part_call, ok_answer_of_part_call F_answer_of_part_call T g_call_not g_call_implies g_call_join g_call_meet g_call_part⟩
  have g_answer_of_counting_call : DefOk P w K mg base 8 "answer_of_counting_call" ["line", "call", "given"] (sp_answer_of_counting_call CC CI CL) := ⟨_, _, PySem.W.mg_of X G a_answer_of_counting_call, F_answer_of_counting_call.kp, b_answer_of_counting_call, ok_answer_of_counting_call F_answer_of_counting_call T g_call_sieves g_call_nth g_call_count⟩
  have g_answer_of_truth_call : DefOk P w K mg base 8 "answer_of_truth_call" ["line", "call", "given"] (sp_answer_of_truth_call CC CI CL) := ⟨_, _, PySem.W.mg_of X G a_answer_of_truth_call, F_answer_of_truth_call.kp, b_answer_of_truth_call, ok_answer_of_truth_call F_answer_of_truth_call T g_call_shows g_call_between g_call_truth g_call_within⟩
  have g_answer_of : DefOk P w K mg base 9 "answer_of" ["line", "call", "given"] (sp_answer_of CC CI CL) := ⟨_, _, PySem.W.mg_of X G a_answer_of, F_answer_of.kp, b_answer_of, ok_answer_of F_answer_of T g_answer_of_truth_call g_answer_of_counting_call g_answer_of_map_call g_answer_of_part_call g_answer_of_instance_call g_answer_of_category_call⟩
  have Z := ok_answers F_answers T g_answer_of g_end_of_call g_initLine
  exact Z
end Im

open PySem PySem.W PyProof.Rows
set_option maxRecDepth 100000 in
set_option maxHeartbeats 0 in
theorem PySem.Challenge.cw_impliedparts_s01_answers_holds : PySem.Challenge.rw_impliedparts_s01_answers.Holds := by
  w_on; k_headS; (case hw => exact ⟨[.list [.int 0, .int 1]], by decide +kernel, by decide +kernel⟩)
  k_fillS
  refine L2.walk_specK (r := PySem.Challenge.rw_impliedparts_s01_answers) (k := 10) (CX := L2.CX0) (ps := ["calls"]) (sp := fun K => Im.sp_answers K 0 0 0) (by decide +kernel) rfl rfl ⟨rfl, by decide, by decide⟩ (fun w h Y => PySem.W.kIn_of Y) ?F ?S (fun _ _ _ _ z => z)
  case F =>
    intro w mg fa h Y KX G hmg
    refine' Im.all_mk KX G hmg ?aCC ?aCI ?aCL ?pgCC ?hdCC ?poCC ?saCC ?mkCC ?kcCC ?nCC_things ?nCC_begins ?nCC_ends ?nCC_made ?pgCI ?hdCI ?poCI ?saCI ?mkCI ?kcCI ?nCI_category ?nCI_sizes ?nCI_leads ?pgCL ?hdCL ?poCL ?saCL ?mkCL ?kcCL ?nCL_category ?nCL_instances ?nCL_parts ?nCL_chosen ?c_NOT_REFUSED ?c_UNFIT ?c_NO_SUCH_INSTANCE ?c_NO_SUCH_PART ?c_NO_SUCH_ARROW ?c_NO_SUCH_MAP ?c_NO_SUCH_NUMBER ?c_FULL ?c_NOT_RIGHT ?c_NO_MAP_CHOSEN ?c_MOST_THINGS ?c_MOST_ARROWS ?c_NOT_TOLD ?c_MOST_ROWS ?c_INSTANCES ?c_PARTS ?c_PARTS_OF_EACH ?c_START ?c_ARROW ?c_MAKE ?c_ROWS ?c_SET ?c_CHECK ?c_WAY ?c_PART ?c_MEET ?c_JOIN ?c_IMPLIES ?c_NOT ?c_FORWARD ?c_BACK ?c_FOR_ALL ?c_WITHIN ?c_COUNT ?c_NTH ?c_TRUTH ?c_SIEVES ?c_BETWEEN ?f_len_ ?f_range_ ?f_list_ ?f_enumerate_ ?f_max_ ?f_sum_ ?aWN ?tWN ?a_initCategory ?i_initCategory ?d_initCategory ?a_arrow_count ?i_arrow_count ?d_arrow_count ?a_add_arrow ?i_add_arrow ?d_add_arrow ?a_is_own ?i_is_own ?d_is_own ?a_told_arrows ?i_told_arrows ?d_told_arrows ?a_arrows_from ?i_arrows_from ?d_arrows_from ?a_do_meet ?i_do_meet ?d_do_meet ?a_tell_made ?i_tell_made ?d_tell_made ?a_all_choices ?d_all_choices ?a_met_part ?d_met_part ?a_told_part ?d_told_part ?a_keeps_ties ?d_keeps_ties ?a_has_row ?i_has_row ?d_has_row ?a_all_rows ?i_all_rows ?d_all_rows ?a_led_along ?i_led_along ?d_led_along ?a_forget_parts ?i_forget_parts ?d_forget_parts ?a_has_instance ?i_has_instance ?d_has_instance ?a_is_part_of ?i_is_part_of ?d_is_part_of ?a_share_instance ?i_share_instance ?d_share_instance ?a_instance_of ?i_instance_of ?d_instance_of ?a_back_part ?d_back_part ?a_end_of_call ?d_end_of_call ?a_what_make ?i_what_make ?d_what_make ?a_meeting_pairs ?i_meeting_pairs ?d_meeting_pairs ?a_joined_part ?d_joined_part ?a_is_within ?d_is_within ?a_arrows_into ?d_arrows_into ?a_put_part ?d_put_part ?a_ties_closed_by ?d_ties_closed_by ?a_longer_maps ?d_longer_maps ?a_initInstance ?i_initInstance ?d_initInstance ?a_tell_size ?i_tell_size ?d_tell_size ?a_led_to ?i_led_to ?d_led_to ?a_first_gap ?i_first_gap ?d_first_gap ?a_call_set ?d_call_set ?a_moves_of_map ?d_moves_of_map ?a_forward_part ?d_forward_part ?a_refusal_along ?d_refusal_along ?a_call_shows ?d_call_shows ?a_makes_fit ?i_makes_fit ?d_makes_fit ?a_is_same_taken ?i_is_same_taken ?d_is_same_taken ?a_brought_part ?d_brought_part ?a_row_implies ?d_row_implies ?a_is_part ?d_is_part ?a_is_closed ?d_is_closed ?a_maps_between ?d_maps_between ?a_first_detour ?i_first_detour ?d_first_detour ?a_call_rows ?d_call_rows ?a_leads_to_none ?d_leads_to_none ?a_chosen_moves ?d_chosen_moves ?a_call_within ?d_call_within ?a_is_category ?i_is_category ?d_is_category ?a_implied_part ?d_implied_part ?a_all_parts ?d_all_parts ?a_closed_sets ?d_closed_sets ?a_first_fault ?i_first_fault ?d_first_fault ?a_forget_rows ?i_forget_rows ?d_forget_rows ?a_for_all_part ?d_for_all_part ?a_call_forward ?d_call_forward ?a_call_back ?d_call_back ?a_call_start ?d_call_start ?a_call_arrow ?d_call_arrow ?a_call_make ?d_call_make ?a_not_part ?d_not_part ?a_call_sieves ?d_call_sieves ?a_is_right ?i_is_right ?d_is_right ?a_call_check ?d_call_check ?a_initLine ?i_initLine ?d_initLine ?a_call_for_all ?d_call_for_all ?a_rows_between ?d_rows_between ?a_refusal_of_parts ?d_refusal_of_parts ?a_call_count ?d_call_count ?a_call_way ?d_call_way ?a_answer_of_category_call ?d_answer_of_category_call ?a_answer_of_map_call ?d_answer_of_map_call ?a_call_part ?d_call_part ?a_call_meet ?d_call_meet ?a_call_join ?d_call_join ?a_call_implies ?d_call_implies ?a_call_not ?d_call_not ?a_call_nth ?d_call_nth ?a_call_truth ?d_call_truth ?a_call_between ?d_call_between ?a_answer_of_instance_call ?d_answer_of_instance_call ?a_answer_of_part_call ?d_answer_of_part_call ?a_answer_of_counting_call ?d_answer_of_counting_call ?a_answer_of_truth_call ?d_answer_of_truth_call ?a_answer_of ?d_answer_of ?a_answers ?d_answers
    (case aCC => k_is)
    (case aCI => k_is)
    (case aCL => k_is)
    (case pgCC => k_is)
    (case hdCC => k_is)
    (case poCC => k_is)
    (case saCC => k_is)
    (case mkCC => k_is)
    (case kcCC => k_is)
    (case nCC_things => k_is)
    (case nCC_begins => k_is)
    (case nCC_ends => k_is)
    (case nCC_made => k_is)
    (case pgCI => k_is)
    (case hdCI => k_is)
    (case poCI => k_is)
    (case saCI => k_is)
    (case mkCI => k_is)
    (case kcCI => k_is)
    (case nCI_category => k_is)
    (case nCI_sizes => k_is)
    (case nCI_leads => k_is)
    (case pgCL => k_is)
    (case hdCL => k_is)
    (case poCL => k_is)
    (case saCL => k_is)
    (case mkCL => k_is)
    (case kcCL => k_is)
    (case nCL_category => k_is)
    (case nCL_instances => k_is)
    (case nCL_parts => k_is)
    (case nCL_chosen => k_is)
    (case c_NOT_REFUSED => k_is)
    (case c_UNFIT => k_is)
    (case c_NO_SUCH_INSTANCE => k_is)
    (case c_NO_SUCH_PART => k_is)
    (case c_NO_SUCH_ARROW => k_is)
    (case c_NO_SUCH_MAP => k_is)
    (case c_NO_SUCH_NUMBER => k_is)
    (case c_FULL => k_is)
    (case c_NOT_RIGHT => k_is)
    (case c_NO_MAP_CHOSEN => k_is)
    (case c_MOST_THINGS => k_is)
    (case c_MOST_ARROWS => k_is)
    (case c_NOT_TOLD => k_is)
    (case c_MOST_ROWS => k_is)
    (case c_INSTANCES => k_is)
    (case c_PARTS => k_is)
    (case c_PARTS_OF_EACH => k_is)
    (case c_START => k_is)
    (case c_ARROW => k_is)
    (case c_MAKE => k_is)
    (case c_ROWS => k_is)
    (case c_SET => k_is)
    (case c_CHECK => k_is)
    (case c_WAY => k_is)
    (case c_PART => k_is)
    (case c_MEET => k_is)
    (case c_JOIN => k_is)
    (case c_IMPLIES => k_is)
    (case c_NOT => k_is)
    (case c_FORWARD => k_is)
    (case c_BACK => k_is)
    (case c_FOR_ALL => k_is)
    (case c_WITHIN => k_is)
    (case c_COUNT => k_is)
    (case c_NTH => k_is)
    (case c_TRUTH => k_is)
    (case c_SIEVES => k_is)
    (case c_BETWEEN => k_is)
    (case f_len_ => k_is)
    (case f_range_ => k_is)
    (case f_list_ => k_is)
    (case f_enumerate_ => k_is)
    (case f_max_ => k_is)
    (case f_sum_ => k_is)
    (case aWN => k_is)
    (case tWN => (refine' Im.TupF.mk ?l ?a ?b ?c ?d; (case l => k_is); (case a => rfl); (case b => rfl); (case c => first | rfl | decide +kernel); (case d => first | rfl | decide +kernel)))
    (case a_initCategory => k_is)
    (case i_initCategory => k_is)
    (case d_initCategory => (refine' Im.DefF.mk ?l ?c ?k; (case l => k_is); (case c => k_is); (case k => k_is)))
    (case a_arrow_count => k_is)
    (case i_arrow_count => k_is)
    (case d_arrow_count => (refine' Im.DefF.mk ?l ?c ?k; (case l => k_is); (case c => k_is); (case k => k_is)))
    (case a_add_arrow => k_is)
    (case i_add_arrow => k_is)
    (case d_add_arrow => (refine' Im.DefF.mk ?l ?c ?k; (case l => k_is); (case c => k_is); (case k => k_is)))
    (case a_is_own => k_is)
    (case i_is_own => k_is)
    (case d_is_own => (refine' Im.DefF.mk ?l ?c ?k; (case l => k_is); (case c => k_is); (case k => k_is)))
    (case a_told_arrows => k_is)
    (case i_told_arrows => k_is)
    (case d_told_arrows => (refine' Im.DefF.mk ?l ?c ?k; (case l => k_is); (case c => k_is); (case k => k_is)))
    (case a_arrows_from => k_is)
    (case i_arrows_from => k_is)
    (case d_arrows_from => (refine' Im.DefF.mk ?l ?c ?k; (case l => k_is); (case c => k_is); (case k => k_is)))
    (case a_do_meet => k_is)
    (case i_do_meet => k_is)
    (case d_do_meet => (refine' Im.DefF.mk ?l ?c ?k; (case l => k_is); (case c => k_is); (case k => k_is)))
    (case a_tell_made => k_is)
    (case i_tell_made => k_is)
    (case d_tell_made => (refine' Im.DefF.mk ?l ?c ?k; (case l => k_is); (case c => k_is); (case k => k_is)))
    (case a_all_choices => k_is)
    (case d_all_choices => (refine' Im.DefF.mk ?l ?c ?k; (case l => k_is); (case c => k_is); (case k => k_is)))
    (case a_met_part => k_is)
    (case d_met_part => (refine' Im.DefF.mk ?l ?c ?k; (case l => k_is); (case c => k_is); (case k => k_is)))
    (case a_told_part => k_is)
    (case d_told_part => (refine' Im.DefF.mk ?l ?c ?k; (case l => k_is); (case c => k_is); (case k => k_is)))
    (case a_keeps_ties => k_is)
    (case d_keeps_ties => (refine' Im.DefF.mk ?l ?c ?k; (case l => k_is); (case c => k_is); (case k => k_is)))
    (case a_has_row => k_is)
    (case i_has_row => k_is)
    (case d_has_row => (refine' Im.DefF.mk ?l ?c ?k; (case l => k_is); (case c => k_is); (case k => k_is)))
    (case a_all_rows => k_is)
    (case i_all_rows => k_is)
    (case d_all_rows => (refine' Im.DefF.mk ?l ?c ?k; (case l => k_is); (case c => k_is); (case k => k_is)))
    (case a_led_along => k_is)
    (case i_led_along => k_is)
    (case d_led_along => (refine' Im.DefF.mk ?l ?c ?k; (case l => k_is); (case c => k_is); (case k => k_is)))
    (case a_forget_parts => k_is)
    (case i_forget_parts => k_is)
    (case d_forget_parts => (refine' Im.DefF.mk ?l ?c ?k; (case l => k_is); (case c => k_is); (case k => k_is)))
    (case a_has_instance => k_is)
    (case i_has_instance => k_is)
    (case d_has_instance => (refine' Im.DefF.mk ?l ?c ?k; (case l => k_is); (case c => k_is); (case k => k_is)))
    (case a_is_part_of => k_is)
    (case i_is_part_of => k_is)
    (case d_is_part_of => (refine' Im.DefF.mk ?l ?c ?k; (case l => k_is); (case c => k_is); (case k => k_is)))
    (case a_share_instance => k_is)
    (case i_share_instance => k_is)
    (case d_share_instance => (refine' Im.DefF.mk ?l ?c ?k; (case l => k_is); (case c => k_is); (case k => k_is)))
    (case a_instance_of => k_is)
    (case i_instance_of => k_is)
    (case d_instance_of => (refine' Im.DefF.mk ?l ?c ?k; (case l => k_is); (case c => k_is); (case k => k_is)))
    (case a_back_part => k_is)
    (case d_back_part => (refine' Im.DefF.mk ?l ?c ?k; (case l => k_is); (case c => k_is); (case k => k_is)))
    (case a_end_of_call => k_is)
    (case d_end_of_call => (refine' Im.DefF.mk ?l ?c ?k; (case l => k_is); (case c => k_is); (case k => k_is)))
    (case a_what_make => k_is)
    (case i_what_make => k_is)
    (case d_what_make => (refine' Im.DefF.mk ?l ?c ?k; (case l => k_is); (case c => k_is); (case k => k_is)))
    (case a_meeting_pairs => k_is)
    (case i_meeting_pairs => k_is)
    (case d_meeting_pairs => (refine' Im.DefF.mk ?l ?c ?k; (case l => k_is); (case c => k_is); (case k => k_is)))
    (case a_joined_part => k_is)
    (case d_joined_part => (refine' Im.DefF.mk ?l ?c ?k; (case l => k_is); (case c => k_is); (case k => k_is)))
    (case a_is_within => k_is)
    (case d_is_within => (refine' Im.DefF.mk ?l ?c ?k; (case l => k_is); (case c => k_is); (case k => k_is)))
    (case a_arrows_into => k_is)
    (case d_arrows_into => (refine' Im.DefF.mk ?l ?c ?k; (case l => k_is); (case c => k_is); (case k => k_is)))
    (case a_put_part => k_is)
    (case d_put_part => (refine' Im.DefF.mk ?l ?c ?k; (case l => k_is); (case c => k_is); (case k => k_is)))
    (case a_ties_closed_by => k_is)
    (case d_ties_closed_by => (refine' Im.DefF.mk ?l ?c ?k; (case l => k_is); (case c => k_is); (case k => k_is)))
    (case a_longer_maps => k_is)
    (case d_longer_maps => (refine' Im.DefF.mk ?l ?c ?k; (case l => k_is); (case c => k_is); (case k => k_is)))
    (case a_initInstance => k_is)
    (case i_initInstance => k_is)
    (case d_initInstance => (refine' Im.DefF.mk ?l ?c ?k; (case l => k_is); (case c => k_is); (case k => k_is)))
    (case a_tell_size => k_is)
    (case i_tell_size => k_is)
    (case d_tell_size => (refine' Im.DefF.mk ?l ?c ?k; (case l => k_is); (case c => k_is); (case k => k_is)))
    (case a_led_to => k_is)
    (case i_led_to => k_is)
    (case d_led_to => (refine' Im.DefF.mk ?l ?c ?k; (case l => k_is); (case c => k_is); (case k => k_is)))
    (case a_first_gap => k_is)
    (case i_first_gap => k_is)
    (case d_first_gap => (refine' Im.DefF.mk ?l ?c ?k; (case l => k_is); (case c => k_is); (case k => k_is)))
    (case a_call_set => k_is)
    (case d_call_set => (refine' Im.DefF.mk ?l ?c ?k; (case l => k_is); (case c => k_is); (case k => k_is)))
    (case a_moves_of_map => k_is)
    (case d_moves_of_map => (refine' Im.DefF.mk ?l ?c ?k; (case l => k_is); (case c => k_is); (case k => k_is)))
    (case a_forward_part => k_is)
    (case d_forward_part => (refine' Im.DefF.mk ?l ?c ?k; (case l => k_is); (case c => k_is); (case k => k_is)))
    (case a_refusal_along => k_is)
    (case d_refusal_along => (refine' Im.DefF.mk ?l ?c ?k; (case l => k_is); (case c => k_is); (case k => k_is)))
    (case a_call_shows => k_is)
    (case d_call_shows => (refine' Im.DefF.mk ?l ?c ?k; (case l => k_is); (case c => k_is); (case k => k_is)))
    (case a_makes_fit => k_is)
    (case i_makes_fit => k_is)
    (case d_makes_fit => (refine' Im.DefF.mk ?l ?c ?k; (case l => k_is); (case c => k_is); (case k => k_is)))
    (case a_is_same_taken => k_is)
    (case i_is_same_taken => k_is)
    (case d_is_same_taken => (refine' Im.DefF.mk ?l ?c ?k; (case l => k_is); (case c => k_is); (case k => k_is)))
    (case a_brought_part => k_is)
    (case d_brought_part => (refine' Im.DefF.mk ?l ?c ?k; (case l => k_is); (case c => k_is); (case k => k_is)))
    (case a_row_implies => k_is)
    (case d_row_implies => (refine' Im.DefF.mk ?l ?c ?k; (case l => k_is); (case c => k_is); (case k => k_is)))
    (case a_is_part => k_is)
    (case d_is_part => (refine' Im.DefF.mk ?l ?c ?k; (case l => k_is); (case c => k_is); (case k => k_is)))
    (case a_is_closed => k_is)
    (case d_is_closed => (refine' Im.DefF.mk ?l ?c ?k; (case l => k_is); (case c => k_is); (case k => k_is)))
    (case a_maps_between => k_is)
    (case d_maps_between => (refine' Im.DefF.mk ?l ?c ?k; (case l => k_is); (case c => k_is); (case k => k_is)))
    (case a_first_detour => k_is)
    (case i_first_detour => k_is)
    (case d_first_detour => (refine' Im.DefF.mk ?l ?c ?k; (case l => k_is); (case c => k_is); (case k => k_is)))
    (case a_call_rows => k_is)
    (case d_call_rows => (refine' Im.DefF.mk ?l ?c ?k; (case l => k_is); (case c => k_is); (case k => k_is)))
    (case a_leads_to_none => k_is)
    (case d_leads_to_none => (refine' Im.DefF.mk ?l ?c ?k; (case l => k_is); (case c => k_is); (case k => k_is)))
    (case a_chosen_moves => k_is)
    (case d_chosen_moves => (refine' Im.DefF.mk ?l ?c ?k; (case l => k_is); (case c => k_is); (case k => k_is)))
    (case a_call_within => k_is)
    (case d_call_within => (refine' Im.DefF.mk ?l ?c ?k; (case l => k_is); (case c => k_is); (case k => k_is)))
    (case a_is_category => k_is)
    (case i_is_category => k_is)
    (case d_is_category => (refine' Im.DefF.mk ?l ?c ?k; (case l => k_is); (case c => k_is); (case k => k_is)))
    (case a_implied_part => k_is)
    (case d_implied_part => (refine' Im.DefF.mk ?l ?c ?k; (case l => k_is); (case c => k_is); (case k => k_is)))
    (case a_all_parts => k_is)
    (case d_all_parts => (refine' Im.DefF.mk ?l ?c ?k; (case l => k_is); (case c => k_is); (case k => k_is)))
    (case a_closed_sets => k_is)
    (case d_closed_sets => (refine' Im.DefF.mk ?l ?c ?k; (case l => k_is); (case c => k_is); (case k => k_is)))
    (case a_first_fault => k_is)
    (case i_first_fault => k_is)
    (case d_first_fault => (refine' Im.DefF.mk ?l ?c ?k; (case l => k_is); (case c => k_is); (case k => k_is)))
    (case a_forget_rows => k_is)
    (case i_forget_rows => k_is)
    (case d_forget_rows => (refine' Im.DefF.mk ?l ?c ?k; (case l => k_is); (case c => k_is); (case k => k_is)))
    (case a_for_all_part => k_is)
    (case d_for_all_part => (refine' Im.DefF.mk ?l ?c ?k; (case l => k_is); (case c => k_is); (case k => k_is)))
    (case a_call_forward => k_is)
    (case d_call_forward => (refine' Im.DefF.mk ?l ?c ?k; (case l => k_is); (case c => k_is); (case k => k_is)))
    (case a_call_back => k_is)
    (case d_call_back => (refine' Im.DefF.mk ?l ?c ?k; (case l => k_is); (case c => k_is); (case k => k_is)))
    (case a_call_start => k_is)
    (case d_call_start => (refine' Im.DefF.mk ?l ?c ?k; (case l => k_is); (case c => k_is); (case k => k_is)))
    (case a_call_arrow => k_is)
    (case d_call_arrow => (refine' Im.DefF.mk ?l ?c ?k; (case l => k_is); (case c => k_is); (case k => k_is)))
    (case a_call_make => k_is)
    (case d_call_make => (refine' Im.DefF.mk ?l ?c ?k; (case l => k_is); (case c => k_is); (case k => k_is)))
    (case a_not_part => k_is)
    (case d_not_part => (refine' Im.DefF.mk ?l ?c ?k; (case l => k_is); (case c => k_is); (case k => k_is)))
    (case a_call_sieves => k_is)
    (case d_call_sieves => (refine' Im.DefF.mk ?l ?c ?k; (case l => k_is); (case c => k_is); (case k => k_is)))
    (case a_is_right => k_is)
    (case i_is_right => k_is)
    (case d_is_right => (refine' Im.DefF.mk ?l ?c ?k; (case l => k_is); (case c => k_is); (case k => k_is)))
    (case a_call_check => k_is)
    (case d_call_check => (refine' Im.DefF.mk ?l ?c ?k; (case l => k_is); (case c => k_is); (case k => k_is)))
    (case a_initLine => k_is)
    (case i_initLine => k_is)
    (case d_initLine => (refine' Im.DefF.mk ?l ?c ?k; (case l => k_is); (case c => k_is); (case k => k_is)))
    (case a_call_for_all => k_is)
    (case d_call_for_all => (refine' Im.DefF.mk ?l ?c ?k; (case l => k_is); (case c => k_is); (case k => k_is)))
    (case a_rows_between => k_is)
    (case d_rows_between => (refine' Im.DefF.mk ?l ?c ?k; (case l => k_is); (case c => k_is); (case k => k_is)))
    (case a_refusal_of_parts => k_is)
    (case d_refusal_of_parts => (refine' Im.DefF.mk ?l ?c ?k; (case l => k_is); (case c => k_is); (case k => k_is)))
    (case a_call_count => k_is)
    (case d_call_count => (refine' Im.DefF.mk ?l ?c ?k; (case l => k_is); (case c => k_is); (case k => k_is)))
    (case a_call_way => k_is)
    (case d_call_way => (refine' Im.DefF.mk ?l ?c ?k; (case l => k_is); (case c => k_is); (case k => k_is)))
    (case a_answer_of_category_call => k_is)
    (case d_answer_of_category_call => (refine' Im.DefF.mk ?l ?c ?k; (case l => k_is); (case c => k_is); (case k => k_is)))
    (case a_answer_of_map_call => k_is)
    (case d_answer_of_map_call => (refine' Im.DefF.mk ?l ?c ?k; (case l => k_is); (case c => k_is); (case k => k_is)))
    (case a_call_part => k_is)
    (case d_call_part => (refine' Im.DefF.mk ?l ?c ?k; (case l => k_is); (case c => k_is); (case k => k_is)))
    (case a_call_meet => k_is)
    (case d_call_meet => (refine' Im.DefF.mk ?l ?c ?k; (case l => k_is); (case c => k_is); (case k => k_is)))
    (case a_call_join => k_is)
    (case d_call_join => (refine' Im.DefF.mk ?l ?c ?k; (case l => k_is); (case c => k_is); (case k => k_is)))
    (case a_call_implies => k_is)
    (case d_call_implies => (refine' Im.DefF.mk ?l ?c ?k; (case l => k_is); (case c => k_is); (case k => k_is)))
    (case a_call_not => k_is)
    (case d_call_not => (refine' Im.DefF.mk ?l ?c ?k; (case l => k_is); (case c => k_is); (case k => k_is)))
    (case a_call_nth => k_is)
    (case d_call_nth => (refine' Im.DefF.mk ?l ?c ?k; (case l => k_is); (case c => k_is); (case k => k_is)))
    (case a_call_truth => k_is)
    (case d_call_truth => (refine' Im.DefF.mk ?l ?c ?k; (case l => k_is); (case c => k_is); (case k => k_is)))
    (case a_call_between => k_is)
    (case d_call_between => (refine' Im.DefF.mk ?l ?c ?k; (case l => k_is); (case c => k_is); (case k => k_is)))
    (case a_answer_of_instance_call => k_is)
    (case d_answer_of_instance_call => (refine' Im.DefF.mk ?l ?c ?k; (case l => k_is); (case c => k_is); (case k => k_is)))
    (case a_answer_of_part_call => k_is)
    (case d_answer_of_part_call => (refine' Im.DefF.mk ?l ?c ?k; (case l => k_is); (case c => k_is); (case k => k_is)))
    (case a_answer_of_counting_call => k_is)
    (case d_answer_of_counting_call => (refine' Im.DefF.mk ?l ?c ?k; (case l => k_is); (case c => k_is); (case k => k_is)))
    (case a_answer_of_truth_call => k_is)
    (case d_answer_of_truth_call => (refine' Im.DefF.mk ?l ?c ?k; (case l => k_is); (case c => k_is); (case k => k_is)))
    (case a_answer_of => k_is)
    (case d_answer_of => (refine' Im.DefF.mk ?l ?c ?k; (case l => k_is); (case c => k_is); (case k => k_is)))
    (case a_answers => k_is)
    (case d_answers => (refine' Im.DefF.mk ?l ?c ?k; (case l => k_is); (case c => k_is); (case k => k_is)))
  case S => exact fun K H xs a hO hwi hask hx => Im.asked_sp K H xs a hO hwi hask hx

