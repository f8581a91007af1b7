import PyProof.Rows.All
import Wide.All
import OpenK.AllK
import Wide.FinOn
import HandS.ForMost
import HandS.Deep
import HandS.Conv
import HandS.SortInts
import HandS.TupAny
import HandS.Property
import HandS.Zip
import KE.SortData
import HandS.TupSets
import KE.KIndexOf
import HandS.DictComp
import KE.KDictKeyed
import KE.KDictDisplayH
import KE.KDictCopyH
import KE.GoesEnum
import KE.GoesMore
import HandS.Iter
import KE.KDictPairs
import HandS.SetFor
import HandS.SetBool
import HandS.Set
import HandS.IsInst
import HandS.TupLen
import HandS.More
import HandS.Wide
import PySem.Challenge.RW_groupsover_k02_whole_prime_parts_and_wha
set_option Elab.async false
set_option linter.all false
set_option maxRecDepth 100000
/-! values without a heap, and readings that are functions of them -/
namespace DL
open PySem PySem.Spec L2

inductive D where
  | non | bl (b : Bool) | int (i : Int) | str (x : Str) | ty (n : String) | cst (a : Addr)
  | tup (xs : List D) | ktup (xs : List D) | ftup (xs : List D) | lst (xs : List D) | dct (t : Bool) (ks vs : List D) | ins (C : Addr) (ns : List Str) (vs : List D)
  deriving Inhabited

def kD : Key → D
  | .inl i => .int i
  | .inr x => .str x

mutual
/-- v stands for d in the frozen part F -/
inductive Rp (K : PySem.W.Frag) (F : Hp) : V → D → Prop
  | non : Rp K F .non .non
  | bl (b : Bool) : Rp K F (.bl b) (.bl b)
  | int (i : Int) : Rp K F (.int i) (.int i)
  | str (x : Str) : Rp K F (.str x) (.str x)
  | ty (n : String) : Rp K F (.ty n) (.ty n)
  | cst (a : Addr) : Rp K F (.ref a) (.cst a)
  | tupK {a : Addr} {xs : List V} {ds : List D} : (∀ H, SqT K H a xs) → RpL K F xs ds → Rp K F (.ref a) (.ktup ds)
  | obj {a : Addr} {o : HO} {d : D} : F a = some o → RpO K F o d → Rp K F (.ref a) d
inductive RpL (K : PySem.W.Frag) (F : Hp) : List V → List D → Prop
  | nil : RpL K F [] []
  | cons {v : V} {vs : List V} {d : D} {ds : List D} : Rp K F v d → RpL K F vs ds → RpL K F (v :: vs) (d :: ds)
inductive RpO (K : PySem.W.Frag) (F : Hp) : HO → D → Prop
  | tup {xs : List V} {ds : List D} : RpL K F xs ds → RpO K F (.tup xs) (.tup ds)
  | ftup {ob : Obj} {xs : List V} {ds : List D} : ob.cls = .type "tuple" → ob.dict = none → RpL K F xs ds → RpO K F (.frz ob (.tup xs)) (.ftup ds)
  | lst {xs : List V} {ds : List D} : RpL K F xs ds → RpO K F (.lst xs) (.lst ds)
  | dK {kvs : List (Key × V)} {ks vs : List D} : kvs.map (fun p => kD p.1) = ks → RpL K F (kvs.map (·.2)) vs → RpO K F (.dK kvs) (.dct false ks vs)
  | dT {kvs : List (List Key × V)} {ks vs : List D} : kvs.map (fun p => D.tup (p.1.map kD)) = ks → RpL K F (kvs.map (·.2)) vs → RpO K F (.dT kvs) (.dct true ks vs)
  | ins {C dx : Addr} {fs : List (Str × V)} {ns : List Str} {vs : List D} : fs.map (·.1) = ns → RpL K F (fs.map (·.2)) vs → RpO K F (.ins C dx fs) (.ins C ns vs)
end

section
variable {K : PySem.W.Frag} {F F' H H' F0 H0 : Hp}
mutual
theorem Rp.mono (s : Same F F') : ∀ {v : V} {d : D}, Rp K F v d → Rp K F' v d
  | _, _, .non => .non
  | _, _, .bl b => .bl b
  | _, _, .int b => .int b
  | _, _, .str b => .str b
  | _, _, .ty b => .ty b
  | _, _, .cst b => .cst b
  | _, _, .tupK h r => .tupK h (RpL.mono s r)
  | _, _, .obj e r => .obj (s _ _ e) (RpO.mono s r)
theorem RpL.mono (s : Same F F') : ∀ {v : List V} {d : List D}, RpL K F v d → RpL K F' v d
  | _, _, .nil => .nil
  | _, _, .cons r t => .cons (Rp.mono s r) (RpL.mono s t)
theorem RpO.mono (s : Same F F') : ∀ {o : HO} {d : D}, RpO K F o d → RpO K F' o d
  | _, _, .tup r => .tup (RpL.mono s r)
  | _, _, .ftup e1 e2 r => .ftup e1 e2 (RpL.mono s r)
  | _, _, .lst r => .lst (RpL.mono s r)
  | _, _, .dK e r => .dK e (RpL.mono s r)
  | _, _, .dT e r => .dT e (RpL.mono s r)
  | _, _, .ins e r => .ins e (RpL.mono s r)
end
theorem RpL.length : ∀ {v : List V} {d : List D}, RpL K F v d → v.length = d.length
  | _, _, .nil => rfl
  | _, _, .cons _ t => by rw [List.length_cons, List.length_cons, RpL.length t]
theorem RpL.get : ∀ {vs : List V} {ds : List D} {i : Nat} {d : D}, RpL K F vs ds → ds[i]? = some d → ∃ v, vs[i]? = some v ∧ Rp K F v d
  | _, _, _, _, .nil, e => by simp at e
  | _, _, 0, _, .cons r _, e => by simp at e; subst e; exact ⟨_, rfl, r⟩
  | _, _, i + 1, d, .cons _ t, e => by
    obtain ⟨v, h1, h2⟩ := RpL.get (i := i) (d := d) t (by simpa using e)
    exact ⟨v, by simpa using h1, h2⟩
theorem RpL.app : ∀ {vs ws : List V} {ds es : List D}, RpL K F vs ds → RpL K F ws es → RpL K F (vs ++ ws) (ds ++ es)
  | _, _, _, _, .nil, s => s
  | _, _, _, _, .cons r t, s => .cons r (RpL.app t s)
theorem RpL.set {v : V} {d : D} (r : Rp K F v d) : ∀ {vs : List V} {ds : List D} (i : Nat), RpL K F vs ds → RpL K F (vs.set i v) (ds.set i d)
  | _, _, _, .nil => .nil
  | _, _, 0, .cons _ t => .cons r t
  | _, _, i + 1, .cons q t => .cons q (RpL.set r i t)
theorem RpL.dropLast : ∀ {vs : List V} {ds : List D}, RpL K F vs ds → RpL K F vs.dropLast ds.dropLast
  | _, _, .nil => .nil
  | _, _, .cons _ .nil => .nil
  | _, _, .cons r (.cons q t) => .cons r (RpL.dropLast (.cons q t))

def tupO : HO → Bool
  | .tup _ => true
  | _ => false
/-- what may be changed -/
def isOwnD : D → Bool
  | .lst _ => true
  | .dct _ _ _ => true
  | .ins _ _ _ => true
  | _ => false
theorem tupO_own {K : PySem.W.Frag} {F : Hp} {o : HO} {d : D} (r : RpO K F o d) (h : isOwnD d = true) : tupO o = false := by
  cases r <;> first
    | rfl
    | cases h
/-- from F, H to F', H': nothing is changed, the frozen part grows by new things alone -/
structure Ext (F H F' H' : Hp) : Prop where
  f : Same F F'
  h : Same H H'
  s : Same F' H'
  n : ∀ b o, F b = none → H b = some o → tupO o = false → F' b = none
theorem Ext.refl (s : Same F H) : Ext F H F H := ⟨fun _ _ e => e, fun _ _ e => e, s, fun _ _ e _ _ => e⟩
theorem Ext.trans {F1 H1 F2 H2 : Hp} (a : Ext F H F1 H1) (b : Ext F1 H1 F2 H2) : Ext F H F2 H2 :=
  ⟨fun x o e => b.f x o (a.f x o e), fun x o e => b.h x o (a.h x o e), b.s, fun x o e1 e2 e3 => b.n x o (a.n x o e1 e2 e3) (a.h x o e2) e3⟩
theorem Ext.laid {p : Addr} {o : HO} (s : Same F H) (hp : H p = none) : Ext F H (upd F p o) (upd H p o) where
  f := fun b u e => by
    have hb : b ≠ p := fun z => by subst z; rw [s b u e] at hp; cases hp
    rw [upd_ne hb]; exact e
  h := fun b u e => by rw [upd_ne (ne_of_none e hp)]; exact e
  s := fun b u e => by
    by_cases hb : b = p
    · subst hb; rw [upd_same] at e ⊢; exact e
    · rw [upd_ne hb] at e ⊢; exact s b u e
  n := fun b u e1 e2 _ => by rw [upd_ne (ne_of_none e2 hp)]; exact e1
theorem Ext.temp {p : Addr} {o : HO} (s : Same F H) (hp : H p = none) : Ext F H F (upd H p o) where
  f := fun _ _ e => e
  h := fun b u e => by rw [upd_ne (ne_of_none e hp)]; exact e
  s := fun b u e => by rw [upd_ne (ne_of_none (s b u e) hp)]; exact s b u e
  n := fun _ _ e _ _ => e
/-- a new thing that was not frozen yet is frozen -/
theorem Ext.freeze {p : Addr} {o : HO} {F1 H1 : Hp} (a : Ext F H F1 H1) (hp : H p = none) (e : H1 p = some o) (hn : F1 p = none) : Ext F H (upd F1 p o) H1 where
  f := fun b u q => by
    have := a.f b u q
    have hb : b ≠ p := fun z => by subst z; rw [hn] at this; cases this
    rw [upd_ne hb]; exact this
  h := a.h
  s := fun b u q => by
    by_cases hb : b = p
    · subst hb; rw [upd_same] at q; cases q; exact e
    · rw [upd_ne hb] at q; exact a.s b u q
  n := fun b u e1 e2 e3 => by rw [upd_ne (ne_of_none e2 hp)]; exact a.n b u e1 e2 e3
theorem same_upd {p : Addr} {o : HO} (hn : F p = none) : Same F (upd F p o) := fun b u e => by
  rw [upd_ne (ne_of_none e hn)]; exact e

/-- a slot: nothing known, a frozen value, an own list or dict -/
inductive SV where
  | unk | fro (d : D) | own (d : D)
  deriving Inhabited
abbrev DS := List SV

structure SR (K : PySem.W.Frag) (F0 H0 F H : Hp) (σ : St) (δ : DS) : Prop where
  ext : Ext F0 H0 F H
  len : σ.length = δ.length
  fro : ∀ (i : Nat) (d : D), δ[i]? = some (SV.fro d) → ∃ v, σ[i]? = some (some v) ∧ Rp K F v d
  own : ∀ (i : Nat) (d : D), δ[i]? = some (SV.own d) → ∃ a o, σ[i]? = some (some (V.ref a)) ∧ H a = some o ∧ F a = none ∧ H0 a = none ∧ RpO K F o d
  nt : ∀ (i : Nat) (d : D), δ[i]? = some (SV.own d) → isOwnD d = true
  dis : ∀ (i j : Nat) (a : Addr) (d e : D), δ[i]? = some (SV.own d) → δ[j]? = some (SV.own e) → σ[i]? = some (some (V.ref a)) → σ[j]? = some (some (V.ref a)) → i = j

variable {σ : St} {δ : DS}
theorem SR.up (S : SR K F0 H0 F H σ δ) (x : Ext F H F' H') : SR K F0 H0 F' H' σ δ where
  ext := S.ext.trans x
  len := S.len
  fro := fun i d e => by
    obtain ⟨v, h1, h2⟩ := S.fro i d e
    exact ⟨v, h1, h2.mono x.f⟩
  own := fun i d e => by
    obtain ⟨a, o, h1, h2, h3, h4, h5⟩ := S.own i d e
    exact ⟨a, o, h1, x.h a o h2, x.n a o h3 h2 (tupO_own h5 (S.nt i d e)), h4, h5.mono x.f⟩
  nt := S.nt
  dis := S.dis
theorem SR.lt (S : SR K F0 H0 F H σ δ) {i : Nat} {s : SV} (h : δ[i]? = some s) : i < σ.length := by
  rw [S.len]; exact (List.getElem?_eq_some_iff.mp h).1
theorem set_get {α : Type} {l : List α} {i j : Nat} {x y : α} (h : (l.set i x)[j]? = some y) : (i = j ∧ y = x) ∨ (i ≠ j ∧ l[j]? = some y) := by
  by_cases e : i = j
  · subst e
    by_cases hl : i < l.length
    · rw [List.getElem?_set_self hl] at h; cases h; exact .inl ⟨rfl, rfl⟩
    · rw [List.set_eq_of_length_le (by omega)] at h
      exact absurd (List.getElem?_eq_some_iff.mp h).1 hl
  · rw [List.getElem?_set_ne e] at h; exact .inr ⟨e, h⟩
/-- a frozen value at a slot -/
theorem SR.set (S : SR K F0 H0 F H σ δ) {i : Nat} {v : V} {d : D} (r : Rp K F v d) : SR K F0 H0 F H (σ.set i (some v)) (δ.set i (SV.fro d)) where
  ext := S.ext
  len := by rw [List.length_set, List.length_set]; exact S.len
  fro := fun j e h => by
    rcases set_get h with ⟨rfl, q⟩ | ⟨ne, q⟩
    · cases q
      have hl : i < σ.length := by
        have := (List.getElem?_eq_some_iff.mp h).1
        rw [List.length_set, ← S.len] at this; exact this
      exact ⟨v, List.getElem?_set_self hl, r⟩
    · obtain ⟨w, h1, h2⟩ := S.fro j e q
      exact ⟨w, by rw [List.getElem?_set_ne ne]; exact h1, h2⟩
  own := fun j e h => by
    rcases set_get h with ⟨rfl, q⟩ | ⟨ne, q⟩
    · cases q
    · obtain ⟨a, o, h1, h2⟩ := S.own j e q
      exact ⟨a, o, by rw [List.getElem?_set_ne ne]; exact h1, h2⟩
  nt := fun j e h => by
    rcases set_get h with ⟨rfl, q⟩ | ⟨ne, q⟩
    · cases q
    · exact S.nt j e q
  dis := fun j k a d e h1 h2 g1 g2 => by
    rcases set_get h1 with ⟨rfl, q1⟩ | ⟨n1, q1⟩
    · cases q1
    rcases set_get h2 with ⟨rfl, q2⟩ | ⟨n2, q2⟩
    · cases q2
    rw [List.getElem?_set_ne n1] at g1
    rw [List.getElem?_set_ne n2] at g2
    exact S.dis j k a d e q1 q2 g1 g2
/-- a slot forgotten -/
theorem SR.wipe (S : SR K F0 H0 F H σ δ) (i : Nat) : SR K F0 H0 F H (σ.set i none) (δ.set i SV.unk) where
  ext := S.ext
  len := by rw [List.length_set, List.length_set]; exact S.len
  fro := fun j e h => by
    rcases set_get h with ⟨rfl, q⟩ | ⟨ne, q⟩
    · cases q
    · obtain ⟨w, h1, h2⟩ := S.fro j e q
      exact ⟨w, by rw [List.getElem?_set_ne ne]; exact h1, h2⟩
  own := fun j e h => by
    rcases set_get h with ⟨rfl, q⟩ | ⟨ne, q⟩
    · cases q
    · obtain ⟨a, o, h1, h2⟩ := S.own j e q
      exact ⟨a, o, by rw [List.getElem?_set_ne ne]; exact h1, h2⟩
  nt := fun j e h => by
    rcases set_get h with ⟨rfl, q⟩ | ⟨ne, q⟩
    · cases q
    · exact S.nt j e q
  dis := fun j k a d e h1 h2 g1 g2 => by
    rcases set_get h1 with ⟨rfl, q1⟩ | ⟨n1, q1⟩
    · cases q1
    rcases set_get h2 with ⟨rfl, q2⟩ | ⟨n2, q2⟩
    · cases q2
    rw [List.getElem?_set_ne n1] at g1
    rw [List.getElem?_set_ne n2] at g2
    exact S.dis j k a d e q1 q2 g1 g2
/-- a new own thing at a slot: it came behind H -/
theorem SR.setOwn (S : SR K F0 H0 F H σ δ) {F' H' : Hp} (x : Ext F H F' H') {i : Nat} {a : Addr} {o : HO} {d : D} (hn : H a = none) (ha : H' a = some o) (hf : F' a = none) (r : RpO K F' o d) (hd : isOwnD d = true) :
    SR K F0 H0 F' H' (σ.set i (some (.ref a))) (δ.set i (SV.own d)) where
  ext := S.ext.trans x
  len := by rw [List.length_set, List.length_set]; exact S.len
  fro := fun j e h => by
    rcases set_get h with ⟨rfl, q⟩ | ⟨ne, q⟩
    · cases q
    · obtain ⟨w, h1, h2⟩ := (S.up x).fro j e q
      exact ⟨w, by rw [List.getElem?_set_ne ne]; exact h1, h2⟩
  own := fun j e h => by
    rcases set_get h with ⟨rfl, q⟩ | ⟨ne, q⟩
    · cases q
      have hl : i < σ.length := by
        have := (List.getElem?_eq_some_iff.mp h).1
        rw [List.length_set, ← S.len] at this; exact this
      refine ⟨a, o, List.getElem?_set_self hl, ha, hf, ?_, r⟩
      cases q : H0 a with
      | none => rfl
      | some u => have := S.ext.h a u q; rw [hn] at this; cases this
    · obtain ⟨b, u, h1, h2⟩ := (S.up x).own j e q
      exact ⟨b, u, by rw [List.getElem?_set_ne ne]; exact h1, h2⟩
  nt := fun j e h => by
    rcases set_get h with ⟨rfl, q⟩ | ⟨ne, q⟩
    · cases q; exact hd
    · exact S.nt j e q
  dis := fun j k b d e h1 h2 g1 g2 => by
    have key : ∀ (j : Nat) (d : D), δ[j]? = some (SV.own d) → σ[j]? = some (some (V.ref a)) → False := fun j d q g => by
      obtain ⟨b, u, z1, z2, _⟩ := S.own j d q
      rw [g] at z1; cases z1
      rw [hn] at z2; cases z2
    rcases set_get h1 with ⟨rfl, q1⟩ | ⟨n1, q1⟩
    · rcases set_get h2 with ⟨e2, q2⟩ | ⟨n2, q2⟩
      · exact e2
      · exfalso
        have hl : i < σ.length := by
          have := (List.getElem?_eq_some_iff.mp h1).1
          rw [List.length_set, ← S.len] at this; exact this
        rw [List.getElem?_set_self hl] at g1
        cases g1
        rw [List.getElem?_set_ne n2] at g2
        exact key k e q2 g2
    · rcases set_get h2 with ⟨rfl, q2⟩ | ⟨n2, q2⟩
      · exfalso
        have hl : i < σ.length := by
          have := (List.getElem?_eq_some_iff.mp h2).1
          rw [List.length_set, ← S.len] at this; exact this
        rw [List.getElem?_set_self hl] at g2
        cases g2
        rw [List.getElem?_set_ne n1] at g1
        exact key j d q1 g1
      · rw [List.getElem?_set_ne n1] at g1
        rw [List.getElem?_set_ne n2] at g2
        exact S.dis j k b d e q1 q2 g1 g2
/-- an own thing is changed -/
theorem SR.change (S : SR K F0 H0 F H σ δ) {i : Nat} {a : Addr} {d d' : D} {o' : HO} (hi : δ[i]? = some (SV.own d)) (ha : σ[i]? = some (some (V.ref a))) (r : RpO K F o' d') (hd : isOwnD d' = true) :
    SR K F0 H0 F (upd H a o') σ (δ.set i (SV.own d')) := by
  obtain ⟨a', o, h1, h2, h3, h4, h5⟩ := S.own i d hi
  rw [ha] at h1; cases h1
  refine ⟨⟨S.ext.f, fun b u e => ?_, fun b u e => ?_, fun b u e1 e2 e3 => S.ext.n b u e1 e2 e3⟩, by rw [List.length_set]; exact S.len, fun j e h => ?_, fun j e h => ?_, fun j e h => ?_, fun j k b d1 e h1 h2 g1 g2 => ?_⟩
  · rw [upd_ne (fun z => by subst z; rw [h4] at e; cases e)]; exact S.ext.h b u e
  · rw [upd_ne (fun z => by subst z; rw [h3] at e; cases e)]; exact S.ext.s b u e
  · rcases set_get h with ⟨rfl, q⟩ | ⟨ne, q⟩
    · cases q
    · exact S.fro j e q
  · rcases set_get h with ⟨rfl, q⟩ | ⟨ne, q⟩
    · cases q
      exact ⟨a, o', ha, upd_same, h3, h4, r⟩
    · obtain ⟨b, u, z1, z2, z3⟩ := S.own j e q
      have hb : b ≠ a := fun z => ne (by subst z; exact S.dis i j b d e hi q ha z1)
      exact ⟨b, u, z1, by rw [upd_ne hb]; exact z2, z3⟩
  · rcases set_get h with ⟨rfl, q⟩ | ⟨ne, q⟩
    · cases q; exact hd
    · exact S.nt j e q
  · have o1 : ∃ d1', δ[j]? = some (SV.own d1') := by
      rcases set_get h1 with ⟨rfl, q⟩ | ⟨_, q⟩
      · exact ⟨_, hi⟩
      · exact ⟨_, q⟩
    have o2 : ∃ d1', δ[k]? = some (SV.own d1') := by
      rcases set_get h2 with ⟨rfl, q⟩ | ⟨_, q⟩
      · exact ⟨_, hi⟩
      · exact ⟨_, q⟩
    obtain ⟨_, o1⟩ := o1
    obtain ⟨_, o2⟩ := o2
    exact S.dis j k b _ _ o1 o2 g1 g2
/-- an own thing is frozen -/
theorem SR.freeze (S : SR K F0 H0 F H σ δ) {i : Nat} {d : D} (hi : δ[i]? = some (SV.own d)) :
    ∃ F', Same F F' ∧ SR K F0 H0 F' H σ (δ.set i (SV.fro d)) := by
  obtain ⟨a, o, h1, h2, h3, h4, h5⟩ := S.own i d hi
  have sm : Same F (upd F a o) := same_upd h3
  refine ⟨upd F a o, sm, ⟨⟨fun b u e => sm b u (S.ext.f b u e), S.ext.h, fun b u e => ?_, fun b u e1 e2 e3 => ?_⟩, by rw [List.length_set]; exact S.len, fun j e h => ?_, fun j e h => ?_, fun j e h => ?_, fun j k b d1 e q1 q2 g1 g2 => ?_⟩⟩
  · by_cases hb : b = a
    · subst hb; rw [upd_same] at e; cases e; exact h2
    · rw [upd_ne hb] at e; exact S.ext.s b u e
  · have hb : b ≠ a := fun z => by subst z; rw [h4] at e2; cases e2
    rw [upd_ne hb]; exact S.ext.n b u e1 e2 e3
  · rcases set_get h with ⟨rfl, q⟩ | ⟨ne, q⟩
    · cases q
      exact ⟨.ref a, h1, .obj upd_same (h5.mono sm)⟩
    · obtain ⟨v, z1, z2⟩ := S.fro j e q
      exact ⟨v, z1, z2.mono sm⟩
  · rcases set_get h with ⟨rfl, q⟩ | ⟨ne, q⟩
    · cases q
    · obtain ⟨b, u, z1, z2, z3, z4, z5⟩ := S.own j e q
      have hb : b ≠ a := fun z => ne (by subst z; exact S.dis i j b d e hi q h1 z1)
      exact ⟨b, u, z1, z2, by rw [upd_ne hb]; exact z3, z4, z5.mono sm⟩
  · rcases set_get h with ⟨rfl, q⟩ | ⟨ne, q⟩
    · cases q
    · exact S.nt j e q
  · rcases set_get q1 with ⟨rfl, q⟩ | ⟨n1, q1⟩
    · cases q
    rcases set_get q2 with ⟨rfl, q⟩ | ⟨n2, q2⟩
    · cases q
    exact S.dis j k b d1 e q1 q2 g1 g2
/-- a tuple may be frozen at any time -/
theorem Ext.tup {a : Addr} {xs : List V} (s : Same F H) (e : H a = some (.tup xs)) : ∃ F', Ext F H F' H ∧ F' a = some (.tup xs) := by
  cases q : F a with
  | some o =>
    have := s a o q
    rw [e] at this; cases this
    exact ⟨F, Ext.refl s, q⟩
  | none =>
    refine ⟨upd F a (.tup xs), ⟨same_upd q, fun _ _ e => e, fun b u h => ?_, fun b u e1 e2 e3 => ?_⟩, upd_same⟩
    · by_cases hb : b = a
      · subst hb; rw [upd_same] at h; cases h; exact e
      · rw [upd_ne hb] at h; exact s b u h
    · by_cases hb : b = a
      · subst hb; rw [e] at e2; cases e2; cases e3
      · rw [upd_ne hb]; exact e1
end
end DL

namespace DL
open PySem PySem.Spec L2

structure Cc where
  K : PySem.W.Frag
  F0 : Hp
  H0 : Hp
abbrev M (α : Type) := DS → Option α

/-- an expression: its value is frozen behind -/
def Ex (c : Cc) (t : TE) (m : M D) : Prop := ∀ (δ : DS) (σ : St) (F H : Hp) (Q : VK) (d : D), SR c.K c.F0 c.H0 F H σ δ → m δ = some d →
  (∀ v F' H', Ext F H F' H' → Rp c.K F' v d → Q v H') → t σ H Q
/-- its own parts are frozen, itself perhaps not -/
def RB (K : PySem.W.Frag) (F H : Hp) (v : V) (d : D) : Prop := Rp K F v d ∨ ∃ a o, v = .ref a ∧ H a = some o ∧ RpO K F o d
inductive RBL (K : PySem.W.Frag) (F H : Hp) : List V → List D → Prop
  | nil : RBL K F H [] []
  | cons {v : V} {vs : List V} {d : D} {ds : List D} : RB K F H v d → RBL K F H vs ds → RBL K F H (v :: vs) (d :: ds)
theorem RB.h {K : PySem.W.Frag} {F H : Hp} {v : V} {d : D} (r : RB K F H v d) (s : Same F H) : Rp K H v d := by
  rcases r with r | ⟨a, o, rfl, h, r⟩
  · exact r.mono s
  · exact .obj h (r.mono s)
theorem RB.up {K : PySem.W.Frag} {F H F' H' : Hp} {v : V} {d : D} (r : RB K F H v d) (x : Ext F H F' H') : RB K F' H' v d := by
  rcases r with r | ⟨a, o, rfl, h, r⟩
  · exact .inl (r.mono x.f)
  · exact .inr ⟨a, o, rfl, x.h _ _ h, r.mono x.f⟩
theorem RBL.h {K : PySem.W.Frag} {F H : Hp} (s : Same F H) : ∀ {v : List V} {d : List D}, RBL K F H v d → RpL K H v d
  | _, _, .nil => .nil
  | _, _, .cons r t => .cons (r.h s) (RBL.h s t)
theorem RBL.of {K : PySem.W.Frag} {F H : Hp} : ∀ {v : List V} {d : List D}, RpL K F v d → RBL K F H v d
  | _, _, .nil => .nil
  | _, _, .cons r t => .cons (.inl r) (RBL.of t)
/-- .. its value is looked at alone -/
def Bx (c : Cc) (t : TE) (m : M D) : Prop := ∀ (δ : DS) (σ : St) (F H : Hp) (Q : VK) (d : D), SR c.K c.F0 c.H0 F H σ δ → m δ = some d →
  (∀ v F' H', Ext F H F' H' → RB c.K F' H' v d → Q v H') → t σ H Q
/-- .. its value is a new thing -/
def Ox (c : Cc) (t : TE) (m : M D) : Prop := ∀ (δ : DS) (σ : St) (F H : Hp) (Q : VK) (d : D), SR c.K c.F0 c.H0 F H σ δ → m δ = some d →
  (∀ a o F' H', Ext F H F' H' → H a = none → H' a = some o → F' a = none → RpO c.K F' o d → Q (.ref a) H') → t σ H Q
def Ax (c : Cc) (t : TA) (m : M (List D)) : Prop := ∀ (δ : DS) (σ : St) (F H : Hp) (Q : List V → Hp → Prop) (ds : List D), SR c.K c.F0 c.H0 F H σ δ → m δ = some ds →
  (∀ vs F' H', Ext F H F' H' → RpL c.K F' vs ds → Q vs H') → t σ H Q
def AB (c : Cc) (t : TA) (m : M (List D)) : Prop := ∀ (δ : DS) (σ : St) (F H : Hp) (Q : List V → Hp → Prop) (ds : List D), SR c.K c.F0 c.H0 F H σ δ → m δ = some ds →
  (∀ vs F' H', Ext F H F' H' → RBL c.K F' H' vs ds → Q vs H') → t σ H Q
def Tx (c : Cc) (t : TT) (m : M Bool) : Prop := ∀ (δ : DS) (σ : St) (F H : Hp) (Q : Bool → Hp → Prop) (b : Bool), SR c.K c.F0 c.H0 F H σ δ → m δ = some b →
  (∀ F' H', Ext F H F' H' → Q b H') → t σ H Q

theorem Ext.sm {F H F' H' : Hp} (x : Ext F H F' H') : Same F' H' := x.s
section
variable {c : Cc} {ta tb tc : TE} {ma mb mc : M D}
theorem Ex.b (h : Ex c ta ma) : Bx c ta ma := fun δ σ F H Q d S e k => h δ σ F H Q d S e fun v F' H' x r => k v F' H' x (.inl r)
theorem Ox.x (h : Ox c ta ma) : Ex c ta ma := fun δ σ F H Q d S e k => h δ σ F H Q d S e fun a o F' H' x hn ha hf r =>
  k (.ref a) (upd F' a o) H' (x.freeze hn ha hf) (.obj upd_same (r.mono (same_upd hf)))
theorem Ox.b (h : Ox c ta ma) : Bx c ta ma := h.x.b
theorem SR.sFH {K : PySem.W.Frag} {F0 H0 F H : Hp} {σ : St} {δ : DS} (S : SR K F0 H0 F H σ δ) : Same F H := S.ext.s

/-! names, constants -/
def mFro (i : Nat) : M D := fun δ => match δ[i]? with
  | some (SV.fro d) => some d
  | _ => none
def mAny (i : Nat) : M D := fun δ => match δ[i]? with
  | some (SV.fro d) => some d
  | some (SV.own d) => some d
  | _ => none
theorem ex_var (i : Nat) : Ex c (tVar i) (mFro i) := fun δ σ F H Q d S e k => by
  unfold mFro at e
  split at e
  · rename_i d' h; cases e
    obtain ⟨v, h1, h2⟩ := S.fro i _ h
    exact ⟨v, h1, k v F H (Ext.refl S.sFH) h2⟩
  · cases e
theorem bx_var (i : Nat) : Bx c (tVar i) (mAny i) := fun δ σ F H Q d S e k => by
  unfold mAny at e
  split at e
  · rename_i d' h; cases e
    obtain ⟨v, h1, h2⟩ := S.fro i _ h
    exact ⟨v, h1, k v F H (Ext.refl S.sFH) (.inl h2)⟩
  · rename_i d' h; cases e
    obtain ⟨a, o, h1, h2, h3, h4, h5⟩ := S.own i _ h
    exact ⟨_, h1, k _ F H (Ext.refl S.sFH) (.inr ⟨a, o, rfl, h2, h5⟩)⟩
  · cases e
def mC (d : D) : M D := fun _ => some d
theorem ex_c {v : V} {d : D} (r : ∀ F, Rp c.K F v d) : Ex c (tC v) (mC d) := fun δ σ F H Q d' S e k => by
  cases e
  exact k v F H (Ext.refl S.sFH) (r F)
theorem ex_int (i : Int) : Ex c (tC (.int i)) (mC (.int i)) := ex_c fun _ => .int i
theorem ex_bl (b : Bool) : Ex c (tC (.bl b)) (mC (.bl b)) := ex_c fun _ => .bl b
theorem ex_non : Ex c (tC .non) (mC .non) := ex_c fun _ => .non
theorem ex_str (x : Str) : Ex c (tC (.str x)) (mC (.str x)) := ex_c fun _ => .str x
theorem ex_ty (x : String) : Ex c (tC (.ty x)) (mC (.ty x)) := ex_c fun _ => .ty x

/-! two-place operations -/
def OpB (c : Cc) (r : R2) (f : D → D → Option D) : Prop := ∀ (F H : Hp) (x y : V) (d e z : D) (Q : VK), Same F H → Rp c.K H x d → Rp c.K H y e → f d e = some z →
  (∀ v F' H', Ext F H F' H' → Rp c.K F' v z → Q v H') → r x y H Q
def OpF (c : Cc) (r : R2) (f : D → D → Option D) : Prop := ∀ (F H : Hp) (x y : V) (d e z : D) (Q : VK), Same F H → Rp c.K F x d → Rp c.K F y e → f d e = some z →
  (∀ v F' H', Ext F H F' H' → Rp c.K F' v z → Q v H') → r x y H Q
theorem OpB.f {r : R2} {f : D → D → Option D} (h : OpB c r f) : OpF c r f := fun F H x y d e z Q s r1 r2 => h F H x y d e z Q s (r1.mono s) (r2.mono s)
def m2 (f : D → D → Option D) (ma mb : M D) : M D := fun δ => (ma δ).bind fun x => (mb δ).bind fun y => f x y
theorem m2_some {f : D → D → Option D} {ma mb : M D} {δ : DS} {z : D} (h : m2 f ma mb δ = some z) : ∃ x y, ma δ = some x ∧ mb δ = some y ∧ f x y = some z := by
  unfold m2 at h
  obtain ⟨x, h1, h⟩ := Option.bind_eq_some_iff.mp h
  obtain ⟨y, h2, h⟩ := Option.bind_eq_some_iff.mp h
  exact ⟨x, y, h1, h2, h⟩
theorem ex_op {r : R2} {f : D → D → Option D} (h : OpB c r f) (ha : Bx c ta ma) (hb : Bx c tb mb) : Ex c (tOp r ta tb) (m2 f ma mb) := fun δ σ F H Q z S e k => by
  obtain ⟨d1, d2, e1, e2, e3⟩ := m2_some e
  refine ha δ σ F H _ d1 S e1 fun x F1 H1 x1 r1 => ?_
  refine hb δ σ F1 H1 _ d2 (S.up x1) e2 fun y F2 H2 x2 r2 => ?_
  exact h F2 H2 x y d1 d2 z Q x2.s ((r1.up x2).h x2.s) (r2.h x2.s) e3 fun v F3 H3 x3 r3 => k v F3 H3 ((x1.trans x2).trans x3) r3
theorem ex_opF {r : R2} {f : D → D → Option D} (h : OpF c r f) (ha : Ex c ta ma) (hb : Ex c tb mb) : Ex c (tOp r ta tb) (m2 f ma mb) := fun δ σ F H Q z S e k => by
  obtain ⟨d1, d2, e1, e2, e3⟩ := m2_some e
  refine ha δ σ F H _ d1 S e1 fun x F1 H1 x1 r1 => ?_
  refine hb δ σ F1 H1 _ d2 (S.up x1) e2 fun y F2 H2 x2 r2 => ?_
  exact h F2 H2 x y d1 d2 z Q x2.s (r1.mono x2.f) r2 e3 fun v F3 H3 x3 r3 => k v F3 H3 ((x1.trans x2).trans x3) r3

theorem rp_int {F : Hp} {v : V} {i : Int} (h : Rp K F v (.int i)) : v = .int i := by
  cases h with
  | int => rfl
  | obj _ r => cases r
theorem rp_bl {F : Hp} {v : V} {i : Bool} (h : Rp K F v (.bl i)) : v = .bl i := by
  cases h with
  | bl => rfl
  | obj _ r => cases r
theorem rp_str {F : Hp} {v : V} {i : Str} (h : Rp K F v (.str i)) : v = .str i := by
  cases h with
  | str => rfl
  | obj _ r => cases r
theorem rp_ty {F : Hp} {v : V} {i : String} (h : Rp K F v (.ty i)) : v = .ty i := by
  cases h with
  | ty => rfl
  | obj _ r => cases r
theorem rp_non {F : Hp} {v : V} (h : Rp K F v .non) : v = .non := by
  cases h with
  | non => rfl
  | obj _ r => cases r
theorem rp_cst {F : Hp} {v : V} {a : Addr} (h : Rp K F v (.cst a)) : v = .ref a := by
  cases h with
  | cst => rfl
  | obj _ r => cases r
theorem rp_lst {F : Hp} {v : V} {ds : List D} (h : Rp K F v (.lst ds)) : ∃ a xs, v = .ref a ∧ F a = some (.lst xs) ∧ RpL K F xs ds := by
  cases h with
  | obj e r =>
    cases r with
    | lst r => exact ⟨_, _, rfl, e, r⟩
theorem rp_tup {F : Hp} {v : V} {ds : List D} (h : Rp K F v (.tup ds)) : ∃ a xs, v = .ref a ∧ F a = some (.tup xs) ∧ RpL K F xs ds := by
  cases h with
  | obj e r =>
    cases r with
    | tup r => exact ⟨_, _, rfl, e, r⟩
theorem rp_ktup {F : Hp} {v : V} {ds : List D} (h : Rp K F v (.ktup ds)) : ∃ a xs, v = .ref a ∧ SqT K F a xs ∧ RpL K F xs ds := by
  cases h with
  | tupK h r => exact ⟨_, _, rfl, h _, r⟩
  | obj e r => cases r
theorem rp_ftup {F : Hp} {v : V} {ds : List D} (h : Rp K F v (.ftup ds)) : ∃ a ob xs, v = .ref a ∧ F a = some (.frz ob (.tup xs)) ∧ ob.cls = .type "tuple" ∧ ob.dict = none ∧ RpL K F xs ds := by
  cases h with
  | obj e r =>
    cases r with
    | ftup e1 e2 r => exact ⟨_, _, _, rfl, e, e1, e2, r⟩
theorem sqt_frz {F : Hp} {a : Addr} {ob : Obj} {xs : List V} (h : F a = some (.frz ob (.tup xs))) : SqT K F a xs := .inl (.inr ⟨_, h⟩)
theorem rp_ins {F : Hp} {v : V} {C : Addr} {ns : List Str} {ds : List D} (h : Rp K F v (.ins C ns ds)) : ∃ a dx fs, v = .ref a ∧ F a = some (.ins C dx fs) ∧ fs.map (·.1) = ns ∧ RpL K F (fs.map (·.2)) ds := by
  cases h with
  | obj e r =>
    cases r with
    | ins e2 r => exact ⟨_, _, _, rfl, e, e2, r⟩
theorem rp_dK {F : Hp} {v : V} {ks vs : List D} (h : Rp K F v (.dct false ks vs)) : ∃ a, ∃ kvs : List (Key × V), v = .ref a ∧ F a = some (.dK kvs) ∧ kvs.map (fun p => kD p.1) = ks ∧ RpL K F (kvs.map (·.2)) vs := by
  cases h with
  | obj e r =>
    cases r with
    | dK e2 r => exact ⟨_, _, rfl, e, e2, r⟩
theorem rp_dT {F : Hp} {v : V} {ks vs : List D} (h : Rp K F v (.dct true ks vs)) : ∃ a, ∃ kvs : List (List Key × V), v = .ref a ∧ F a = some (.dT kvs) ∧ kvs.map (fun p => D.tup (p.1.map kD)) = ks ∧ RpL K F (kvs.map (·.2)) vs := by
  cases h with
  | obj e r =>
    cases r with
    | dT e2 r => exact ⟨_, _, rfl, e, e2, r⟩
theorem same_seqT {K : PySem.W.Frag} {H H' : Hp} {a : Addr} {xs : List V} (e : Same H H') (h : SqT K H a xs) : SqT K H' a xs := by
  rcases h with (h | ⟨o, h⟩) | h
  · exact .inl (.inl (e _ _ h))
  · exact .inl (.inr ⟨o, e _ _ h⟩)
  · exact .inr h

/-! ints -/
def fI (C : Int → Int → Bool) (g : Int → Int → Int) : D → D → Option D
  | .int i, .int j => if C i j then some (.int (g i j)) else none
  | _, _ => none
def fB (g : Int → Int → Bool) : D → D → Option D
  | .int i, .int j => some (.bl (g i j))
  | _, _ => none
theorem op_rI0 {g : Int → Int → Int} : OpB c (rI0 fun i j => .int (g i j)) (fI (fun _ _ => true) g) := fun F H x y d e z Q s r1 r2 h k => by
  unfold fI at h
  split at h
  · cases h
    obtain rfl := rp_int r1
    obtain rfl := rp_int r2
    exact ⟨_, _, rfl, rfl, k _ F H (Ext.refl s) (.int _)⟩
  · cases h
theorem op_rI {C : Int → Int → Prop} {Cb : Int → Int → Bool} (hC : ∀ i j, Cb i j = true → C i j) {g : Int → Int → Int} : OpB c (rI C fun i j => .int (g i j)) (fI Cb g) := fun F H x y d e z Q s r1 r2 h k => by
  unfold fI at h
  split at h
  · split at h
    · cases h
      obtain rfl := rp_int r1
      obtain rfl := rp_int r2
      exact ⟨_, _, rfl, rfl, hC _ _ (by assumption), k _ F H (Ext.refl s) (.int _)⟩
    · cases h
  · cases h
theorem op_rB {g : Int → Int → Bool} : OpB c (rI0 fun i j => .bl (g i j)) (fB g) := fun F H x y d e z Q s r1 r2 h k => by
  unfold fB at h
  split at h
  · cases h
    obtain rfl := rp_int r1
    obtain rfl := rp_int r2
    exact ⟨_, _, rfl, rfl, k _ F H (Ext.refl s) (.bl _)⟩
  · cases h
def cMul (i j : Int) : Bool := (decide (-(2 ^ 64) < i) && decide (i < 2 ^ 64)) || (decide (-(2 ^ 64) < j) && decide (j < 2 ^ 64))
theorem cMul_ok (i j : Int) (h : cMul i j = true) : CMul i j := by
  unfold cMul at h
  simp only [Bool.or_eq_true, Bool.and_eq_true, decide_eq_true_eq] at h
  exact h
def cDiv (i j : Int) : Bool := decide (0 < j) && decide (j < 1073741824)
theorem cDiv_ok (i j : Int) (h : cDiv i j = true) : CDiv i j := by
  unfold cDiv at h
  simp only [Bool.and_eq_true, decide_eq_true_eq] at h
  exact h
def cPos (_ j : Int) : Bool := decide (0 < j)
theorem cPos_ok (i j : Int) (h : cPos i j = true) : 0 < j := of_decide_eq_true h

/-! == of data -/
mutual
def D.py : D → Option PyData
  | .non => some .none
  | .bl b => some (.bool b)
  | .int i => some (.int i)
  | .str x => some (.str x)
  | .tup ds => (D.pys ds).map .tuple
  | .ktup ds => (D.pys ds).map .tuple
  | .ftup ds => (D.pys ds).map .tuple
  | .lst ds => (D.pys ds).map .list
  | _ => none
def D.pys : List D → Option (List PyData)
  | [] => some []
  | d :: ds => (D.py d).bind fun p => (D.pys ds).map fun ps => p :: ps
end
mutual
theorem D.py_ok {K : PySem.W.Frag} {H : Hp} : ∀ {d : D} {v : V} {p : PyData}, Rp K H v d → d.py = some p → Dp K H v p
  | .non, v, p, r, h => by cases h; obtain rfl := rp_non r; exact .non
  | .bl b, v, p, r, h => by cases h; obtain rfl := rp_bl r; exact .bl _
  | .int b, v, p, r, h => by cases h; obtain rfl := rp_int r; exact .int _
  | .str b, v, p, r, h => by cases h; obtain rfl := rp_str r; exact .str _
  | .tup ds, v, p, r, h => by
    obtain ⟨ps, h1, h2⟩ := Option.map_eq_some_iff.mp (show (D.pys ds).map PyData.tuple = some p from h)
    subst h2
    obtain ⟨a, xs, rfl, hs, rl⟩ := rp_tup r
    exact .tup (SqT.of hs) (D.pys_ok rl h1)
  | .ktup ds, v, p, r, h => by
    obtain ⟨ps, h1, h2⟩ := Option.map_eq_some_iff.mp (show (D.pys ds).map PyData.tuple = some p from h)
    subst h2
    obtain ⟨a, xs, rfl, hs, rl⟩ := rp_ktup r
    exact .tup hs (D.pys_ok rl h1)
  | .ftup ds, v, p, r, h => by
    obtain ⟨ps, h1, h2⟩ := Option.map_eq_some_iff.mp (show (D.pys ds).map PyData.tuple = some p from h)
    subst h2
    obtain ⟨a, ob, xs, rfl, hs, _, _, rl⟩ := rp_ftup r
    exact .tup (sqt_frz hs) (D.pys_ok rl h1)
  | .lst ds, v, p, r, h => by
    obtain ⟨ps, h1, h2⟩ := Option.map_eq_some_iff.mp (show (D.pys ds).map PyData.list = some p from h)
    subst h2
    obtain ⟨a, xs, rfl, hs, rl⟩ := rp_lst r
    exact .lst (SqL.of hs) (D.pys_ok rl h1)
  | .ty _, _, _, _, h => by cases h
  | .cst _, _, _, _, h => by cases h
  | .dct _ _ _, _, _, _, h => by cases h
  | .ins _ _ _, _, _, _, h => by cases h
theorem D.pys_ok {K : PySem.W.Frag} {H : Hp} : ∀ {ds : List D} {vs : List V} {ps : List PyData}, RpL K H vs ds → D.pys ds = some ps → DpAll K H vs ps
  | [], vs, ps, r, h => by cases h; cases r; exact .nil
  | d :: ds, vs, ps, r, h => by
    obtain ⟨p, h1, h2⟩ := Option.bind_eq_some_iff.mp (show ((D.py d).bind fun p => (D.pys ds).map fun ps => p :: ps) = some ps from h)
    obtain ⟨qs, h3, h4⟩ := Option.map_eq_some_iff.mp h2
    subst h4
    cases r with
    | cons r1 r2 => exact .cons (D.py_ok r1 h1) (D.pys_ok r2 h3)
end
def fEq (neg : Bool) (d e : D) : Option D := d.py.bind fun p => e.py.bind fun q => if SeqAt.shaped p && SeqAt.shaped q then some (.bl (if neg then !PyData.eqv p q else PyData.eqv p q)) else none
theorem fEq_some {neg : Bool} {d e z : D} (h : fEq neg d e = some z) : ∃ p q, d.py = some p ∧ e.py = some q ∧ SeqAt.shaped p = true ∧ SeqAt.shaped q = true ∧ z = .bl (if neg then !PyData.eqv p q else PyData.eqv p q) := by
  unfold fEq at h
  obtain ⟨p, h1, h⟩ := Option.bind_eq_some_iff.mp h
  obtain ⟨q, h2, h⟩ := Option.bind_eq_some_iff.mp h
  split at h
  · rename_i hs
    simp only [Bool.and_eq_true] at hs
    cases h
    exact ⟨p, q, h1, h2, hs.1, hs.2, rfl⟩
  · cases h
theorem op_eqB : OpB c (rEqD c.K) (fEq false) := fun F H x y d e z Q s r1 r2 h k => by
  obtain ⟨p, q, h1, h2, h3, h4, rfl⟩ := fEq_some h
  exact ⟨p, q, D.py_ok r1 h1, D.py_ok r2 h2, h3, h4, k _ F H (Ext.refl s) (.bl _)⟩
theorem op_neB : OpB c (rNeD c.K) (fEq true) := fun F H x y d e z Q s r1 r2 h k => by
  obtain ⟨p, q, h1, h2, h3, h4, rfl⟩ := fEq_some h
  exact ⟨p, q, D.py_ok r1 h1, D.py_ok r2 h2, h3, h4, k _ F H (Ext.refl s) (.bl _)⟩
/-- in, not in a list of data -/
def fIn (neg : Bool) (d e : D) : Option D := d.py.bind fun p => e.py.bind fun q => match q with
  | .list ps => if SeqAt.shaped p && SeqAt.shaped (.list ps) then some (.bl (if neg then !(ps.any fun z => PyData.eqv z p) else ps.any fun z => PyData.eqv z p)) else none
  | _ => none
theorem fIn_some {neg : Bool} {d e z : D} (h : fIn neg d e = some z) : ∃ p ps, d.py = some p ∧ e.py = some (.list ps) ∧ SeqAt.shaped p = true ∧ SeqAt.shaped (.list ps) = true ∧ z = .bl (if neg then !(ps.any fun z => PyData.eqv z p) else ps.any fun z => PyData.eqv z p) := by
  unfold fIn at h
  obtain ⟨p, h1, h⟩ := Option.bind_eq_some_iff.mp h
  obtain ⟨q, h2, h⟩ := Option.bind_eq_some_iff.mp h
  split at h
  · split at h
    · rename_i hs
      simp only [Bool.and_eq_true] at hs
      cases h
      exact ⟨p, _, h1, h2, hs.1, hs.2, rfl⟩
    · cases h
  · cases h
theorem op_inB : OpB c (rInD c.K) (fIn false) := fun F H x y d e z Q s r1 r2 h k => by
  obtain ⟨p, q, h1, h2, h3, h4, rfl⟩ := fIn_some h
  exact ⟨p, q, D.py_ok r1 h1, D.py_ok r2 h2, h3, h4, k _ F H (Ext.refl s) (.bl _)⟩
theorem op_ninB : OpB c (rNotInD c.K) (fIn true) := fun F H x y d e z Q s r1 r2 h k => by
  obtain ⟨p, q, h1, h2, h3, h4, rfl⟩ := fIn_some h
  exact ⟨p, q, D.py_ok r1 h1, D.py_ok r2 h2, h3, h4, k _ F H (Ext.refl s) (.bl _)⟩
/-- in, not in a tuple or a list of flat things -/
def fV : D → Option V
  | .non => some .non
  | .bl b => some (.bl b)
  | .int i => some (.int i)
  | .str x => some (.str x)
  | _ => none
def fVs : List D → Option (List V)
  | [] => some []
  | d :: ds => (fV d).bind fun v => (fVs ds).map fun vs => v :: vs
theorem fV_ok {K : PySem.W.Frag} {H : Hp} {d : D} {v w : V} (r : Rp K H v d) (h : fV d = some w) : v = w ∧ flatV w = true := by
  cases d <;> first
    | (cases h; obtain rfl := rp_non r; exact ⟨rfl, rfl⟩)
    | (cases h; obtain rfl := rp_bl r; exact ⟨rfl, rfl⟩)
    | (cases h; obtain rfl := rp_int r; exact ⟨rfl, rfl⟩)
    | (cases h; obtain rfl := rp_str r; exact ⟨rfl, rfl⟩)
    | (cases h; done)
theorem fVs_ok {K : PySem.W.Frag} {H : Hp} : ∀ {ds : List D} {vs ws : List V}, RpL K H vs ds → fVs ds = some ws → vs = ws ∧ ws.all flatV = true
  | [], vs, ws, r, h => by cases h; cases r; exact ⟨rfl, rfl⟩
  | d :: ds, vs, ws, r, h => by
    obtain ⟨w, h1, h2⟩ := Option.bind_eq_some_iff.mp (show ((fV d).bind fun v => (fVs ds).map fun vs => v :: vs) = some ws from h)
    obtain ⟨us, h3, h4⟩ := Option.map_eq_some_iff.mp h2
    subst h4
    cases r with
    | cons r1 r2 =>
      obtain ⟨rfl, q1⟩ := fV_ok r1 h1
      obtain ⟨rfl, q2⟩ := fVs_ok r2 h3
      exact ⟨rfl, by rw [List.all_cons, q1, q2]; rfl⟩
def seqD : D → Option (List D)
  | .tup ds => some ds
  | .ktup ds => some ds
  | .ftup ds => some ds
  | .lst ds => some ds
  | _ => none
theorem seqD_ok {K : PySem.W.Frag} {H : Hp} {d : D} {v : V} {ds : List D} (r : Rp K H v d) (h : seqD d = some ds) : ∃ a xs, v = .ref a ∧ (SqL K H a xs ∨ SqT K H a xs) ∧ RpL K H xs ds := by
  cases d <;> first
    | (cases h; obtain ⟨a, xs, h1, h2, h3⟩ := rp_tup r; exact ⟨a, xs, h1, .inr (SqT.of h2), h3⟩)
    | (cases h; obtain ⟨a, xs, h1, h2, h3⟩ := rp_ktup r; exact ⟨a, xs, h1, .inr h2, h3⟩)
    | (cases h; obtain ⟨a, ob, xs, h1, h2, _, _, h3⟩ := rp_ftup r; exact ⟨a, xs, h1, .inr (sqt_frz h2), h3⟩)
    | (cases h; obtain ⟨a, xs, h1, h2, h3⟩ := rp_lst r; exact ⟨a, xs, h1, .inl (SqL.of h2), h3⟩)
    | (cases h; done)
def fInF (neg : Bool) (d e : D) : Option D := (fV d).bind fun v => (seqD e).bind fun ds => (fVs ds).map fun vs => .bl (if neg then !inV v vs else inV v vs)
theorem op_inF {neg : Bool} : OpB c (rIn c.K neg) (fInF neg) := fun F H x y d e z Q s r1 r2 h k => by
  unfold fInF at h
  obtain ⟨w, h1, h⟩ := Option.bind_eq_some_iff.mp h
  obtain ⟨ds, h2, h⟩ := Option.bind_eq_some_iff.mp h
  obtain ⟨ws, h3, h⟩ := Option.map_eq_some_iff.mp h
  subst h
  obtain ⟨a, xs, rfl, hq, rl⟩ := seqD_ok r2 h2
  obtain ⟨rfl, q1⟩ := fV_ok r1 h1
  obtain ⟨rfl, q2⟩ := fVs_ok rl h3
  exact ⟨a, xs, rfl, hq, q1, q2, k _ F H (Ext.refl s) (.bl _)⟩
end
end DL

namespace DL
open PySem PySem.Spec L2

section
variable {c : Cc} {ta tb tc : TE} {ma mb mc : M D}

/-! arguments, displays -/
def mNil : M (List D) := fun _ => some []
def mCons (m : M D) (n : M (List D)) : M (List D) := fun δ => (m δ).bind fun d => (n δ).map fun ds => d :: ds
theorem mCons_some {m : M D} {n : M (List D)} {δ : DS} {ds : List D} (h : mCons m n δ = some ds) : ∃ d es, m δ = some d ∧ n δ = some es ∧ ds = d :: es := by
  unfold mCons at h
  obtain ⟨x, h1, h⟩ := Option.bind_eq_some_iff.mp h
  obtain ⟨y, h2, h⟩ := Option.map_eq_some_iff.mp h
  exact ⟨x, y, h1, h2, h.symm⟩
theorem ax_nil : Ax c tNil mNil := fun δ σ F H Q ds S e k => by
  cases e
  exact k [] F H (Ext.refl S.sFH) .nil
theorem ax_cons {t : TA} {n : M (List D)} (ha : Ex c ta ma) (hb : Ax c t n) : Ax c (tCons ta t) (mCons ma n) := fun δ σ F H Q ds S e k => by
  obtain ⟨d, es, e1, e2, rfl⟩ := mCons_some e
  refine ha δ σ F H _ d S e1 fun x F1 H1 x1 r1 => ?_
  refine hb δ σ F1 H1 _ es (S.up x1) e2 fun ys F2 H2 x2 r2 => ?_
  exact k (x :: ys) F2 H2 (x1.trans x2) (.cons (r1.mono x2.f) r2)
theorem ab_nil : AB c tNil mNil := fun δ σ F H Q ds S e k => by
  cases e
  exact k [] F H (Ext.refl S.sFH) .nil
theorem ab_cons {t : TA} {n : M (List D)} (ha : Bx c ta ma) (hb : AB c t n) : AB c (tCons ta t) (mCons ma n) := fun δ σ F H Q ds S e k => by
  obtain ⟨d, es, e1, e2, rfl⟩ := mCons_some e
  refine ha δ σ F H _ d S e1 fun x F1 H1 x1 r1 => ?_
  refine hb δ σ F1 H1 _ es (S.up x1) e2 fun ys F2 H2 x2 r2 => ?_
  exact k (x :: ys) F2 H2 (x1.trans x2) (.cons (r1.up x2) r2)
def lenOk (ds : List D) : Bool := decide (ds.length ≤ sizeLine)
def mTup (n : M (List D)) : M D := fun δ => (n δ).bind fun ds => if lenOk ds then some (.tup ds) else none
def mLst (n : M (List D)) : M D := fun δ => (n δ).bind fun ds => if lenOk ds then some (.lst ds) else none
theorem mTup_some {n : M (List D)} {δ : DS} {z : D} (h : mTup n δ = some z) : ∃ ds, n δ = some ds ∧ ds.length ≤ sizeLine ∧ z = .tup ds := by
  unfold mTup at h
  obtain ⟨x, h1, h⟩ := Option.bind_eq_some_iff.mp h
  split at h
  · rename_i hl; cases h; exact ⟨x, h1, of_decide_eq_true hl, rfl⟩
  · cases h
theorem mLst_some {n : M (List D)} {δ : DS} {z : D} (h : mLst n δ = some z) : ∃ ds, n δ = some ds ∧ ds.length ≤ sizeLine ∧ z = .lst ds := by
  unfold mLst at h
  obtain ⟨x, h1, h⟩ := Option.bind_eq_some_iff.mp h
  split at h
  · rename_i hl; cases h; exact ⟨x, h1, of_decide_eq_true hl, rfl⟩
  · cases h
theorem ext_none {F H F' H' : Hp} (x : Ext F H F' H') {p : Addr} (h : H' p = none) : F' p = none ∧ H p = none := by
  refine ⟨?_, ?_⟩
  · cases q : F' p with
    | none => rfl
    | some o => rw [x.s p o q] at h; cases h
  · cases q : H p with
    | none => rfl
    | some o => rw [x.h p o q] at h; cases h
theorem ex_tup {t : TA} {n : M (List D)} (h : Ax c t n) : Ex c (tTup t) (mTup n) := fun δ σ F H Q z S e k => by
  obtain ⟨ds, e1, hl, rfl⟩ := mTup_some e
  refine h δ σ F H _ ds S e1 fun vs F1 H1 x1 r1 => ⟨by rw [r1.length]; exact hl, fun p hp => ?_⟩
  have x2 : Ext F1 H1 (upd F1 p (.tup vs)) (upd H1 p (.tup vs)) := Ext.laid x1.s hp
  exact k _ _ _ (x1.trans x2) (.obj upd_same (.tup (r1.mono x2.f)))
theorem ox_lst {t : TA} {n : M (List D)} (h : Ax c t n) : Ox c (tLst t) (mLst n) := fun δ σ F H Q z S e k => by
  obtain ⟨ds, e1, hl, rfl⟩ := mLst_some e
  refine h δ σ F H _ ds S e1 fun vs F1 H1 x1 r1 => ⟨by rw [r1.length]; exact hl, fun p hp => ?_⟩
  have x2 : Ext F1 H1 F1 (upd H1 p (.lst vs)) := Ext.temp x1.s hp
  exact k p _ F1 _ (x1.trans x2) (ext_none x1 hp).2 upd_same (ext_none x1 hp).1 (.lst r1)

/-! subscripts -/
theorem RB.seq {K : PySem.W.Frag} {F H : Hp} {v : V} {d : D} {ds : List D} (r : RB K F H v d) (s : Same F H) (h : seqD d = some ds) : ∃ a xs, v = .ref a ∧ (SqL K H a xs ∨ SqT K H a xs) ∧ RpL K F xs ds := by
  rcases r with r | ⟨a, o, rfl, e, r⟩
  · obtain ⟨a, xs, h1, h2, h3⟩ := seqD_ok r h
    exact ⟨a, xs, h1, h2.imp (Same.seq s) (same_seqT s), h3⟩
  · cases d <;> first
      | (cases h; cases r with | ftup _ _ r => exact ⟨a, _, rfl, .inr (sqt_frz e), r⟩)
      | (cases h; cases r with | tup r => exact ⟨a, _, rfl, .inr (SqT.of e), r⟩)
      | (cases h; cases r; done)
      | (cases h; cases r with | lst r => exact ⟨a, _, rfl, .inl (SqL.of e), r⟩)
      | (cases h; done)
def fIx (d e : D) : Option D := match e with
  | .int i => (seqD d).bind fun ds => atI ds i
  | _ => none
theorem RpL.atI {K : PySem.W.Frag} {F : Hp} {vs : List V} {ds : List D} {i : Int} {d : D} (r : RpL K F vs ds) (h : atI ds i = some d) : ∃ v, L2.atI vs i = some v ∧ Rp K F v d := by
  unfold L2.atI at h ⊢
  obtain ⟨j, h1, h2⟩ := Option.bind_eq_some_iff.mp h
  obtain ⟨v, h3, h4⟩ := r.get h2
  exact ⟨v, Option.bind_eq_some_iff.mpr ⟨j, by rw [r.length]; exact h1, h3⟩, h4⟩
def IsIx (K : PySem.W.Frag) (r : R2) : Prop := ∀ (p : Addr) (xs : List V) (i : Int) (v : V) (H : Hp) (Q : VK), (SqL K H p xs ∨ SqT K H p xs) → atI xs i = some v → Q v H → r (.ref p) (.int i) H Q
/-- e[i], e a list or a tuple -/
theorem ex_ix (ha : Bx c ta ma) (hb : Bx c tb mb) : Ex c (tOp (rIx c.K) ta tb) (m2 fIx ma mb) := fun δ σ F H Q z S e k => by
  obtain ⟨d1, d2, e1, e2, e3⟩ := m2_some e
  refine ha δ σ F H _ d1 S e1 fun x F1 H1 x1 r1 => ?_
  refine hb δ σ F1 H1 _ d2 (S.up x1) e2 fun y F2 H2 x2 r2 => ?_
  unfold fIx at e3
  split at e3
  · obtain ⟨ds, e4, e5⟩ := Option.bind_eq_some_iff.mp e3
    obtain rfl := rp_int (r2.h x2.s)
    obtain ⟨a, xs, rfl, hq, rl⟩ := (r1.up x2).seq x2.s e4
    obtain ⟨v, h1, h2⟩ := rl.atI e5
    rcases hq with hq | hq
    · exact .inl ⟨a, xs, _, v, rfl, rfl, hq, h1, k v F2 H2 (x1.trans x2) h2⟩
    · exact .inr (.inl ⟨a, xs, _, v, rfl, rfl, hq, h1, k v F2 H2 (x1.trans x2) h2⟩)
  · cases e3

/-! dicts -/
mutual
/-- equality of keys -/
def beqK : D → D → Bool
  | .int a, .int b => a == b
  | .str a, .str b => a == b
  | .tup a, .tup b => beqKs a b
  | _, _ => false
def beqKs : List D → List D → Bool
  | [], [] => true
  | a :: as, b :: bs => beqK a b && beqKs as bs
  | _, _ => false
end
theorem beqK_key (a b : Key) : beqK (kD a) (kD b) = decide (a = b) := by
  cases a with
  | inl a =>
    cases b with
    | inl b => rw [key_ll]; simp only [kD, beqK]
    | inr b => rw [key_lr]; simp only [kD, beqK]
  | inr a =>
    cases b with
    | inl b => rw [key_rl]; simp only [kD, beqK]
    | inr b =>
      rw [key_rr]; simp only [kD, beqK]
      rw [Bool.eq_iff_iff]; simp
theorem beqKs_keys : ∀ (a b : List Key), beqKs (a.map kD) (b.map kD) = decide (a = b)
  | [], [] => by simp [beqKs]
  | [], _ :: _ => by simp [beqKs]
  | _ :: _, [] => by simp [beqKs]
  | a :: as, b :: bs => by
    simp only [List.map_cons, beqKs, beqK_key, beqKs_keys as bs]
    by_cases h1 : a = b <;> by_cases h2 : as = bs <;> simp [h1, h2]
theorem beqK_tup (a b : List Key) : beqK (.tup (a.map kD)) (.tup (b.map kD)) = decide (a = b) := by
  simp only [beqK]; exact beqKs_keys a b
def dLook : List D → List D → D → Option D
  | k :: ks, v :: vs, x => if beqK k x then some v else dLook ks vs x
  | _, _, _ => none
def dPut : List D → List D → D → D → List D × List D
  | k :: ks, v :: vs, x, y => if beqK k x then (k :: ks, y :: vs) else let r := dPut ks vs x y; (k :: r.1, v :: r.2)
  | _, _, x, y => ([x], [y])
/-- the key of a dict that a value tells -/
def keyD : D → Option Key
  | .int i => some (.inl i)
  | .str x => some (.inr x)
  | _ => none
def keysD : List D → Option (List Key)
  | [] => some []
  | d :: ds => (keyD d).bind fun k => (keysD ds).map fun ks => k :: ks
theorem keyD_ok {d : D} {k : Key} (h : keyD d = some k) : d = kD k := by
  cases d <;> first
    | (cases h; rfl)
    | (cases h; done)
theorem keysD_ok : ∀ {ds : List D} {ks : List Key}, keysD ds = some ks → ds = ks.map kD
  | [], ks, h => by cases h; rfl
  | d :: ds, ks, h => by
    obtain ⟨w, h1, h2⟩ := Option.bind_eq_some_iff.mp (show ((keyD d).bind fun k => (keysD ds).map fun ks => k :: ks) = some ks from h)
    obtain ⟨us, h3, h4⟩ := Option.map_eq_some_iff.mp h2
    subst h4
    rw [keyD_ok h1, keysD_ok h3]; rfl
theorem rp_key {K : PySem.W.Frag} {F : Hp} {v : V} {k : Key} (r : Rp K F v (kD k)) : v = kV k := by
  cases k with
  | inl i => exact rp_int r
  | inr x => exact rp_str r
theorem rp_keys {K : PySem.W.Frag} {F : Hp} : ∀ {vs : List V} {ks : List Key}, RpL K F vs (ks.map kD) → vs = ks.map kV
  | vs, [], r => by cases r; rfl
  | vs, k :: ks, r => by
    cases r with
    | cons r1 r2 => rw [rp_key r1, rp_keys r2]; rfl
theorem valV_look {κ : Type} [DecidableEq κ] {K : PySem.W.Frag} {F : Hp} (g : κ → D) (hg : ∀ a b, beqK (g a) (g b) = decide (a = b)) (k : κ) : ∀ {kvs : List (κ × V)} {vs : List D}, RpL K F (kvs.map (·.2)) vs →
    (∀ d, dLook (kvs.map fun p => g p.1) vs (g k) = some d → ∃ v, valV kvs k = some v ∧ Rp K F v d) ∧ (dLook (kvs.map fun p => g p.1) vs (g k) = none → valV kvs k = none)
  | [], vs, r => by
    cases r
    exact ⟨fun d h => by simp [dLook] at h, fun _ => rfl⟩
  | (a, x) :: kvs, vs, r => by
    cases r with
    | @cons _ _ d ds r1 r2 =>
      have ih := valV_look g hg k r2
      unfold valV at ih ⊢
      simp only [List.map_cons, dLook, hg, List.find?_cons]
      by_cases h : a = k
      · simp only [h, decide_true, if_true]
        exact ⟨fun e q => by cases q; exact ⟨x, rfl, r1⟩, fun q => by cases q⟩
      · simp only [h, decide_false, Bool.false_eq_true, if_false]
        exact ih
/-- what a dict has at a key -/
def fGet (d e : D) : Option (Option D) := match d with
  | .dct false ks vs => (keyD e).map fun k => dLook ks vs (kD k)
  | .dct true ks vs => match e with
    | .tup es => (keysD es).map fun k => dLook ks vs (.tup (k.map kD))
    | _ => none
  | _ => none
theorem RB.dK {K : PySem.W.Frag} {F H : Hp} {v : V} {ks vs : List D} (r : RB K F H v (.dct false ks vs)) (s : Same F H) : ∃ a, ∃ kvs : List (Key × V), v = .ref a ∧ H a = some (.dK kvs) ∧ kvs.map (fun p => kD p.1) = ks ∧ RpL K F (kvs.map (·.2)) vs := by
  rcases r with r | ⟨a, o, rfl, e, r⟩
  · obtain ⟨a, kvs, h1, h2, h3⟩ := rp_dK r
    exact ⟨a, kvs, h1, s _ _ h2, h3⟩
  · cases r with
    | dK e2 r => exact ⟨a, _, rfl, e, e2, r⟩
theorem RB.dT {K : PySem.W.Frag} {F H : Hp} {v : V} {ks vs : List D} (r : RB K F H v (.dct true ks vs)) (s : Same F H) : ∃ a, ∃ kvs : List (List Key × V), v = .ref a ∧ H a = some (.dT kvs) ∧ kvs.map (fun p => D.tup (p.1.map kD)) = ks ∧ RpL K F (kvs.map (·.2)) vs := by
  rcases r with r | ⟨a, o, rfl, e, r⟩
  · obtain ⟨a, kvs, h1, h2, h3⟩ := rp_dT r
    exact ⟨a, kvs, h1, s _ _ h2, h3⟩
  · cases r with
    | dT e2 r => exact ⟨a, _, rfl, e, e2, r⟩
theorem get_ok {K : PySem.W.Frag} {F H : Hp} {x y : V} {d e : D} {o : Option D} (s : Same F H) (r1 : RB K F H x d) (r2 : RB K F H y e) (h : fGet d e = some o) :
    ∃ a w, x = .ref a ∧ DGet H a y w ∧ IsD H a ∧ ((∃ z v, o = some z ∧ w = some v ∧ Rp K F v z) ∨ (o = none ∧ w = none)) := by
  unfold fGet at h
  split at h
  · obtain ⟨k, h1, rfl⟩ := Option.map_eq_some_iff.mp h
    obtain ⟨a, kvs, rfl, e1, rfl, rl⟩ := r1.dK s
    obtain rfl := rp_key (by rw [← keyD_ok h1]; exact r2.h s)
    obtain ⟨z1, z2⟩ := valV_look kD beqK_key k rl
    refine ⟨a, _, rfl, DGet.k (k := k) e1, .inl ⟨kvs, .inl e1⟩, ?_⟩
    cases q : dLook (kvs.map fun p => kD p.1) _ (kD k) with
    | none => exact .inr ⟨rfl, z2 q⟩
    | some z =>
      obtain ⟨v, h2, h3⟩ := z1 z q
      exact .inl ⟨z, v, rfl, h2, h3⟩
  · split at h
    · obtain ⟨k, h1, rfl⟩ := Option.map_eq_some_iff.mp h
      obtain ⟨a, kvs, rfl, e1, rfl, rl⟩ := r1.dT s
      obtain ⟨b, xs, rfl, e2, rk⟩ := rp_tup (r2.h s)
      rw [keysD_ok h1] at rk
      obtain rfl := rp_keys rk
      obtain ⟨z1, z2⟩ := valV_look (fun k : List Key => D.tup (k.map kD)) beqK_tup k rl
      refine ⟨a, _, rfl, DGet.t (k := k) e1 e2, .inr ⟨kvs, .inl e1⟩, ?_⟩
      cases q : dLook (kvs.map fun p => D.tup (p.1.map kD)) _ (D.tup (k.map kD)) with
      | none => exact .inr ⟨rfl, z2 q⟩
      | some z =>
        obtain ⟨v, h2, h3⟩ := z1 z q
        exact .inl ⟨z, v, rfl, h2, h3⟩
    · cases h
  · cases h
end
end DL

namespace DL
open PySem PySem.Spec L2

section
variable {c : Cc} {ta tb tc : TE} {ma mb mc : M D}

/-! dicts, read -/
def fGetI (d e : D) : Option D := (fGet d e).bind id
def fHas (neg : Bool) (d e : D) : Option D := (fGet d e).map fun o => .bl (if neg then !o.isSome else o.isSome)
theorem ex_dget (ha : Bx c ta ma) (hb : Bx c tb mb) : Ex c (tDGet ta tb) (m2 fGetI ma mb) := fun δ σ F H Q z S e k => by
  obtain ⟨d1, d2, e1, e2, e3⟩ := m2_some e
  refine ha δ σ F H _ d1 S e1 fun x F1 H1 x1 r1 => ?_
  refine hb δ σ F1 H1 _ d2 (S.up x1) e2 fun y F2 H2 x2 r2 => ?_
  obtain ⟨o, h1, h2⟩ := Option.bind_eq_some_iff.mp (show (fGet d1 d2).bind id = some z from e3)
  obtain ⟨a, w, rfl, g, _, hw⟩ := get_ok x2.s (r1.up x2) r2 h1
  rcases hw with ⟨z', v, e4, e5, r⟩ | ⟨e4, _⟩
  · subst e5 e4
    cases h2
    exact ⟨a, v, rfl, g, k v F2 H2 (x1.trans x2) r⟩
  · subst e4
    cases h2
theorem ex_din (ha : Bx c ta ma) (hb : Bx c tb mb) : Ex c (tDIn ta tb) (m2 (fun e d => fHas false d e) ma mb) := fun δ σ F H Q z S e k => by
  obtain ⟨d1, d2, e1, e2, e3⟩ := m2_some e
  refine ha δ σ F H _ d1 S e1 fun x F1 H1 x1 r1 => ?_
  refine hb δ σ F1 H1 _ d2 (S.up x1) e2 fun y F2 H2 x2 r2 => ?_
  obtain ⟨o, h1, h2⟩ := Option.map_eq_some_iff.mp (show (fGet d2 d1).map (fun o => D.bl (if false then !o.isSome else o.isSome)) = some z from e3)
  subst h2
  obtain ⟨a, w, rfl, g, _, hw⟩ := get_ok x2.s r2 (r1.up x2) h1
  refine ⟨a, w, rfl, g, k _ F2 H2 (x1.trans x2) ?_⟩
  rcases hw with ⟨z', v, e4, e5, r⟩ | ⟨e4, e5⟩ <;> subst e4 e5 <;> exact .bl _
theorem ex_dnin (ha : Bx c ta ma) (hb : Bx c tb mb) : Ex c (tDNotIn ta tb) (m2 (fun e d => fHas true d e) ma mb) := fun δ σ F H Q z S e k => by
  obtain ⟨d1, d2, e1, e2, e3⟩ := m2_some e
  refine ha δ σ F H _ d1 S e1 fun x F1 H1 x1 r1 => ?_
  refine hb δ σ F1 H1 _ d2 (S.up x1) e2 fun y F2 H2 x2 r2 => ?_
  obtain ⟨o, h1, h2⟩ := Option.map_eq_some_iff.mp (show (fGet d2 d1).map (fun o => D.bl (if true then !o.isSome else o.isSome)) = some z from e3)
  subst h2
  obtain ⟨a, w, rfl, g, _, hw⟩ := get_ok x2.s r2 (r1.up x2) h1
  refine ⟨a, w, rfl, g, k _ F2 H2 (x1.trans x2) ?_⟩
  rcases hw with ⟨z', v, e4, e5, r⟩ | ⟨e4, e5⟩ <;> subst e4 e5 <;> exact .bl _
/-- d.get(k, x) -/
def m3 (f : D → D → D → Option D) (ma mb mc : M D) : M D := fun δ => (ma δ).bind fun x => (mb δ).bind fun y => (mc δ).bind fun z => f x y z
theorem m3_some {f : D → D → D → Option D} {δ : DS} {w : D} (h : m3 f ma mb mc δ = some w) : ∃ x y z, ma δ = some x ∧ mb δ = some y ∧ mc δ = some z ∧ f x y z = some w := by
  unfold m3 at h
  obtain ⟨x, h1, h⟩ := Option.bind_eq_some_iff.mp h
  obtain ⟨y, h2, h⟩ := Option.bind_eq_some_iff.mp h
  obtain ⟨z, h3, h⟩ := Option.bind_eq_some_iff.mp h
  exact ⟨x, y, z, h1, h2, h3, h⟩
def isDct : D → Bool
  | .dct _ _ _ => true
  | _ => false
def fGet2 (d e x : D) : Option D := (fGet d e).map fun o => o.getD x
theorem isD_of {K : PySem.W.Frag} {F H : Hp} {x : V} {t : Bool} {ks vs : List D} (r : RB K F H x (.dct t ks vs)) (s : Same F H) : ∃ a, x = .ref a ∧ IsD H a := by
  cases t with
  | false => obtain ⟨a, kvs, rfl, e, _⟩ := r.dK s; exact ⟨a, rfl, .inl ⟨kvs, .inl e⟩⟩
  | true => obtain ⟨a, kvs, rfl, e, _⟩ := r.dT s; exact ⟨a, rfl, .inr ⟨kvs, .inl e⟩⟩
theorem fGet_dct {d e : D} {o : Option D} (h : fGet d e = some o) : ∃ t ks vs, d = .dct t ks vs := by
  cases d with
  | dct t ks vs => exact ⟨t, ks, vs, rfl⟩
  | _ => cases h
theorem ex_dget2 (ha : Bx c ta ma) (hb : Bx c tb mb) (hc : Ex c tc mc) : Ex c (tDGet2 ta tb tc) (m3 fGet2 ma mb mc) := fun δ σ F H Q z S e k => by
  obtain ⟨d1, d2, d3, e1, e2, e3, e4⟩ := m3_some e
  obtain ⟨o, h1, h2⟩ := Option.map_eq_some_iff.mp (show (fGet d1 d2).map (fun o => o.getD d3) = some z from e4)
  subst h2
  obtain ⟨t, ks, vs, rfl⟩ := fGet_dct h1
  refine ha δ σ F H _ _ S e1 fun x F1 H1 x1 r1 => ?_
  obtain ⟨a, rfl, hd⟩ := isD_of r1 x1.s
  refine ⟨a, rfl, hd, ?_⟩
  refine hb δ σ F1 H1 _ d2 (S.up x1) e2 fun y F2 H2 x2 r2 => ?_
  refine hc δ σ F2 H2 _ d3 ((S.up x1).up x2) e3 fun w F3 H3 x3 r3 => ?_
  obtain ⟨a', u, e5, g, _, hw⟩ := get_ok x3.s ((r1.up x2).up x3) (r2.up x3) h1
  cases e5
  refine ⟨u, g, k _ F3 H3 ((x1.trans x2).trans x3) ?_⟩
  rcases hw with ⟨z', v, e4, e5, r⟩ | ⟨e4, e5⟩ <;> subst e4 e5
  · exact r
  · exact r3

/-! fields, properties -/
def fldD : List Str → List D → Str → Option D
  | n :: ns, v :: vs, f => if f = n then some v else fldD ns vs f
  | _, _, _ => none
theorem fld_ok {K : PySem.W.Frag} {F : Hp} {f : Str} {d : D} : ∀ {fs : List (Str × V)} {ds : List D}, RpL K F (fs.map (·.2)) ds → fldD (fs.map (·.1)) ds f = some d → ∃ v, fs.lookup f = some v ∧ Rp K F v d
  | [], ds, r, h => by cases r; cases h
  | (n, x) :: fs, ds, r, h => by
    cases r with
    | cons r1 r2 =>
      rw [List.map_cons] at h
      simp only [fldD] at h
      rw [List.lookup_cons]
      by_cases e : f = n
      · rw [if_pos e] at h
        cases h
        subst e
        simp only [beq_self_eq_true]
        exact ⟨x, rfl, r1⟩
      · rw [if_neg e] at h
        have : (f == n) = false := beq_eq_false_iff_ne.mpr e
        rw [this]
        exact fld_ok r2 h
theorem RB.ins {K : PySem.W.Frag} {F H : Hp} {v : V} {C : Addr} {ns : List Str} {vs : List D} (r : RB K F H v (.ins C ns vs)) (s : Same F H) : ∃ a dx fs, v = .ref a ∧ H a = some (.ins C dx fs) ∧ fs.map (·.1) = ns ∧ RpL K F (fs.map (·.2)) vs := by
  rcases r with r | ⟨a, o, rfl, e, r⟩
  · obtain ⟨a, dx, fs, h1, h2, h3, h4⟩ := rp_ins r
    exact ⟨a, dx, fs, h1, s _ _ h2, h3, h4⟩
  · cases r with
    | ins e2 r => exact ⟨a, _, _, rfl, e, e2, r⟩
def mFld (C : Addr) (f : Str) (ma : M D) : M D := fun δ => (ma δ).bind fun d => match d with
  | .ins C' ns vs => if C' = C then fldD ns vs f else none
  | _ => none
theorem mFld_some {C : Addr} {f : Str} {δ : DS} {z : D} (h : mFld C f ma δ = some z) : ∃ ns vs, ma δ = some (.ins C ns vs) ∧ fldD ns vs f = some z := by
  unfold mFld at h
  obtain ⟨x, h1, h2⟩ := Option.bind_eq_some_iff.mp h
  cases x with
  | ins C' ns vs =>
    have h3 : (if C' = C then fldD ns vs f else none) = some z := h2
    by_cases e : C' = C
    · rw [if_pos e] at h3
      subst e
      exact ⟨_, _, h1, h3⟩
    · rw [if_neg e] at h3; cases h3
  | _ => cases h2
theorem ex_fld {C : Addr} {f : Str} (cl : Cls c.K C) (na : NoAttr c.K C f) (ha : Bx c ta ma) : Ex c (tFld c.K ta f) (mFld C f ma) := fun δ σ F H Q z S e k => by
  obtain ⟨ns, vs, e1, e2⟩ := mFld_some e
  refine ha δ σ F H _ _ S e1 fun x F1 H1 x1 r1 => ?_
  obtain ⟨a, dx, fs, rfl, h1, rfl, rl⟩ := r1.ins x1.s
  obtain ⟨v, h2, h3⟩ := fld_ok rl e2
  exact ⟨a, C, dx, fs, v, rfl, h1, cl, na, h2, k v F1 H1 x1 h3⟩

/-! defs -/
/-- a def that is a function of what its arguments tell -/
def spD (K : PySem.W.Frag) (n : Nat) (r : List D → Option D) : Sp := fun vs H Q _ => ∃ (F : Hp) (ds : List D) (d : D), Same F H ∧ RpL K F vs ds ∧ ds.length = n ∧ r ds = some d ∧ ∀ v F' H', Ext F H F' H' → Rp K F' v d → Q v H'
theorem spD_len {K : PySem.W.Frag} {n : Nat} {r : List D → Option D} {vs : List V} {H : Hp} {Q : VK} {E : XK} (h : spD K n r vs H Q E) : vs.length = n := by
  obtain ⟨F, ds, d, _, rl, hl, _⟩ := h
  rw [rl.length, hl]
def mCall (n : Nat) (r : List D → Option D) (m : M (List D)) : M D := fun δ => (m δ).bind fun ds => if ds.length = n then r ds else none
theorem ex_call {t : TA} {n : Nat} {r : List D → Option D} {m : M (List D)} {E : XK} (h : Ax c t m) : Ex c (tCall (spD c.K n r) [] E t) (mCall n r m) := fun δ σ F H Q z S e k => by
  unfold mCall at e
  obtain ⟨ds, e1, e2⟩ := Option.bind_eq_some_iff.mp e
  split at e2
  · rename_i hl
    refine h δ σ F H _ ds S e1 fun vs F1 H1 x1 r1 => ?_
    show spD c.K n r (vs ++ []) H1 Q E
    rw [List.append_nil]
    exact ⟨F1, ds, z, x1.s, r1, hl, e2, fun v F2 H2 x2 r2 => k v F2 H2 (x1.trans x2) r2⟩
  · cases e2
theorem ex_prop {C : Addr} {r : List D → Option D} {E : XK} (ha : Ex c ta ma) : Ex c (tProp C (spD c.K 1 r) [] E ta) (fun δ => (ma δ).bind fun d => match d with
    | .ins C' ns vs => if C' = C then r [.ins C' ns vs] else none
    | _ => none) := fun δ σ F H Q z S e k => by
  obtain ⟨d, e1, e2⟩ := Option.bind_eq_some_iff.mp e
  split at e2
  · split at e2
    · rename_i hc; subst hc
      refine ha δ σ F H _ _ S e1 fun x F1 H1 x1 r1 => ?_
      obtain ⟨a, dx, fs, rfl, h1, _, _⟩ := rp_ins r1
      exact ⟨a, dx, fs, rfl, x1.s _ _ h1, F1, [_], z, x1.s, .cons r1 .nil, rfl, e2, fun v F2 H2 x2 r2 => k v F2 H2 (x1.trans x2) r2⟩
    · cases e2
  · cases e2
theorem ex_meth {C : Addr} {m : Str} {n : Nat} {r : List D → Option D} {E : XK} {t : TA} {mt : M (List D)} (ha : Ex c ta ma) (h : Ax c t mt) : Ex c (tMeth C m (spD c.K n r) [] E ta t) (fun δ => (ma δ).bind fun d => match d with
    | .ins C' ns vs => if C' = C then (if m ∈ ns then none else (mt δ).bind fun ds => if ds.length + 1 = n then r (.ins C' ns vs :: ds) else none) else none
    | _ => none) := fun δ σ F H Q z S e k => by
  obtain ⟨d, e1, e2⟩ := Option.bind_eq_some_iff.mp e
  split at e2
  · split at e2
    · rename_i hc; subst hc
      split at e2
      · cases e2
      rename_i hm
      obtain ⟨ds, e3, e4⟩ := Option.bind_eq_some_iff.mp e2
      split at e4
      · rename_i hl
        refine ha δ σ F H _ _ S e1 fun x F1 H1 x1 r1 => ?_
        obtain ⟨a, dx, fs, rfl, h1, h2, h3⟩ := rp_ins r1
        refine ⟨a, dx, fs, rfl, x1.s _ _ h1, ?_, ?_⟩
        · cases q : fs.lookup m with
          | none => rfl
          | some v =>
            have : m ∈ fs.map (·.1) := by
              have := List.lookup_eq_some_iff.mp q
              obtain ⟨l1, l2, e5, _⟩ := this
              rw [e5]; simp
            rw [h2] at this
            exact absurd this hm
        · refine h δ σ F1 H1 _ ds (S.up x1) e3 fun vs F2 H2 x2 r2 => ?_
          rw [List.append_nil]
          exact ⟨F2, _, z, x2.s, .cons (r1.mono x2.f) r2, by rw [List.length_cons]; exact hl, e4, fun v F3 H3 x3 r3 => k v F3 H3 ((x1.trans x2).trans x3) r3⟩
      · cases e4
    · cases e2
  · cases e2

/-! built-in functions by values -/
def CB (c : Cc) (r : List V → Hp → VK → Prop) (f : List D → Option D) : Prop := ∀ (F H : Hp) (vs : List V) (ds : List D) (z : D) (Q : VK), Same F H → RBL c.K F H vs ds → f ds = some z →
  (∀ v F' H', Ext F H F' H' → Rp c.K F' v z → Q v H') → r vs H Q
def CO (c : Cc) (r : List V → Hp → VK → Prop) (f : List D → Option D) : Prop := ∀ (F H : Hp) (vs : List V) (ds : List D) (z : D) (Q : VK), Same F H → RBL c.K F H vs ds → f ds = some z →
  (∀ a o F' H', Ext F H F' H' → H a = none → H' a = some o → F' a = none → RpO c.K F' o z → Q (.ref a) H') → r vs H Q
def mB (f : List D → Option D) (m : M (List D)) : M D := fun δ => (m δ).bind f
theorem ex_cb {r : List V → Hp → VK → Prop} {f : List D → Option D} {t : TA} {m : M (List D)} (h : CB c r f) (ha : AB c t m) : Ex c (tCB r t) (mB f m) := fun δ σ F H Q z S e k => by
  obtain ⟨ds, e1, e2⟩ := Option.bind_eq_some_iff.mp (show (m δ).bind f = some z from e)
  refine ha δ σ F H _ ds S e1 fun vs F1 H1 x1 r1 => ?_
  exact h F1 H1 vs ds z Q x1.s r1 e2 fun v F2 H2 x2 r2 => k v F2 H2 (x1.trans x2) r2
theorem ox_cb {r : List V → Hp → VK → Prop} {f : List D → Option D} {t : TA} {m : M (List D)} (h : CO c r f) (ha : AB c t m) : Ox c (tCB r t) (mB f m) := fun δ σ F H Q z S e k => by
  obtain ⟨ds, e1, e2⟩ := Option.bind_eq_some_iff.mp (show (m δ).bind f = some z from e)
  refine ha δ σ F H _ ds S e1 fun vs F1 H1 x1 r1 => ?_
  refine h F1 H1 vs ds z Q x1.s r1 e2 fun a o F2 H2 x2 hn ha hf r2 => k a o F2 H2 (x1.trans x2) ?_ ha hf r2
  cases q : H a with
  | none => rfl
  | some u => rw [x1.h a u q] at hn; cases hn
theorem rbl1 {K : PySem.W.Frag} {F H : Hp} {vs : List V} {d : D} (r : RBL K F H vs [d]) : ∃ v, vs = [v] ∧ RB K F H v d := by
  cases r with
  | cons r t => cases t; exact ⟨_, rfl, r⟩
theorem rbl2 {K : PySem.W.Frag} {F H : Hp} {vs : List V} {d e : D} (r : RBL K F H vs [d, e]) : ∃ v w, vs = [v, w] ∧ RB K F H v d ∧ RB K F H w e := by
  cases r with
  | cons r t =>
    obtain ⟨w, rfl, r2⟩ := rbl1 t
    exact ⟨_, w, rfl, r, r2⟩
def f1 (f : D → Option D) : List D → Option D
  | [d] => f d
  | _ => none
theorem f1_some {f : D → Option D} {ds : List D} {z : D} (h : f1 f ds = some z) : ∃ d, ds = [d] ∧ f d = some z := by
  cases ds with
  | nil => cases h
  | cons d t =>
    cases t with
    | nil => exact ⟨d, rfl, h⟩
    | cons _ _ => cases h
/-- len of a list, a tuple -/
def fLen (d : D) : Option D := (seqD d).map fun ds => .int ds.length
theorem cb_len : CB c (fun xs H Q => ∃ p ys, xs = [.ref p] ∧ (SqL c.K H p ys ∨ SqT c.K H p ys) ∧ Q (.int ys.length) H) (f1 fLen) := fun F H vs ds z Q s r h k => by
  obtain ⟨d, rfl, h⟩ := f1_some h
  obtain ⟨es, h1, rfl⟩ := Option.map_eq_some_iff.mp h
  obtain ⟨v, rfl, r1⟩ := rbl1 r
  obtain ⟨a, xs, rfl, hq, rl⟩ := r1.seq s h1
  exact ⟨a, xs, rfl, hq, by rw [rl.length]; exact k _ F H (Ext.refl s) (.int _)⟩
/-- ints of a list -/
def intsD : List D → Option (List Int)
  | [] => some []
  | .int i :: ds => (intsD ds).map fun is => i :: is
  | _ :: _ => none
theorem ints_ok {K : PySem.W.Frag} {F : Hp} : ∀ {ds : List D} {vs : List V} {is : List Int}, RpL K F vs ds → intsD ds = some is → vs = is.map V.int ∧ ds = is.map D.int
  | [], vs, is, r, h => by cases h; cases r; exact ⟨rfl, rfl⟩
  | d :: ds, vs, is, r, h => by
    cases d with
    | int i =>
      obtain ⟨us, h3, rfl⟩ := Option.map_eq_some_iff.mp (show (intsD ds).map (fun is => i :: is) = some is from h)
      cases r with
      | cons r1 r2 =>
        obtain ⟨rfl, rfl⟩ := ints_ok r2 h3
        exact ⟨by rw [rp_int r1]; rfl, rfl⟩
    | _ => cases h
def boolsD : List D → Option (List Bool)
  | [] => some []
  | .bl i :: ds => (boolsD ds).map fun is => i :: is
  | _ :: _ => none
theorem bools_ok {K : PySem.W.Frag} {F : Hp} : ∀ {ds : List D} {vs : List V} {is : List Bool}, RpL K F vs ds → boolsD ds = some is → vs = is.map V.bl ∧ ds = is.map D.bl
  | [], vs, is, r, h => by cases h; cases r; exact ⟨rfl, rfl⟩
  | d :: ds, vs, is, r, h => by
    cases d with
    | bl i =>
      obtain ⟨us, h3, rfl⟩ := Option.map_eq_some_iff.mp (show (boolsD ds).map (fun is => i :: is) = some is from h)
      cases r with
      | cons r1 r2 =>
        obtain ⟨rfl, rfl⟩ := bools_ok r2 h3
        exact ⟨by rw [rp_bl r1]; rfl, rfl⟩
    | _ => cases h
def lstD : D → Option (List D)
  | .lst ds => some ds
  | _ => none
theorem lstD_ok {d : D} {ds : List D} (h : lstD d = some ds) : d = .lst ds := by
  cases d <;> first
    | (cases h; rfl)
    | (cases h; done)
theorem RB.lst {K : PySem.W.Frag} {F H : Hp} {v : V} {ds : List D} (r : RB K F H v (.lst ds)) (s : Same F H) : ∃ a xs, v = .ref a ∧ H a = some (.lst xs) ∧ RpL K F xs ds := by
  rcases r with r | ⟨a, o, rfl, e, r⟩
  · obtain ⟨a, xs, h1, h2, h3⟩ := rp_lst r
    exact ⟨a, xs, h1, s _ _ h2, h3⟩
  · cases r with
    | lst r => exact ⟨a, _, rfl, e, r⟩
def fSum (d : D) : Option D := (lstD d).bind fun ds => (intsD ds).map fun is => .int is.sum
theorem cb_sum : CB c (rSum c.K) (f1 fSum) := fun F H vs ds z Q s r h k => by
  obtain ⟨d, rfl, h⟩ := f1_some h
  obtain ⟨es, h1, h⟩ := Option.bind_eq_some_iff.mp h
  obtain ⟨is, h2, rfl⟩ := Option.map_eq_some_iff.mp h
  obtain rfl := lstD_ok h1
  obtain ⟨v, rfl, r1⟩ := rbl1 r
  obtain ⟨a, xs, rfl, e, rl⟩ := r1.lst s
  obtain ⟨rfl, _⟩ := ints_ok rl h2
  exact ⟨a, is, rfl, SqL.of e, k _ F H (Ext.refl s) (.int _)⟩
def fAll (d : D) : Option D := (lstD d).bind fun ds => (boolsD ds).map fun is => .bl (is.all id)
theorem cb_all : CB c (rAll c.K) (f1 fAll) := fun F H vs ds z Q s r h k => by
  obtain ⟨d, rfl, h⟩ := f1_some h
  obtain ⟨es, h1, h⟩ := Option.bind_eq_some_iff.mp h
  obtain ⟨is, h2, rfl⟩ := Option.map_eq_some_iff.mp h
  obtain rfl := lstD_ok h1
  obtain ⟨v, rfl, r1⟩ := rbl1 r
  obtain ⟨a, xs, rfl, e, rl⟩ := r1.lst s
  obtain ⟨rfl, _⟩ := bools_ok rl h2
  exact ⟨a, is, rfl, SqL.of e, k _ F H (Ext.refl s) (.bl _)⟩
def fAny (d : D) : Option D := (lstD d).bind fun ds => (boolsD ds).map fun is => .bl (is.any id)
theorem cb_any : CB c (rAny c.K) (f1 fAny) := fun F H vs ds z Q s r h k => by
  obtain ⟨d, rfl, h⟩ := f1_some h
  obtain ⟨es, h1, h⟩ := Option.bind_eq_some_iff.mp h
  obtain ⟨is, h2, rfl⟩ := Option.map_eq_some_iff.mp h
  obtain rfl := lstD_ok h1
  obtain ⟨v, rfl, r1⟩ := rbl1 r
  obtain ⟨a, xs, rfl, e, rl⟩ := r1.lst s
  obtain ⟨rfl, _⟩ := bools_ok rl h2
  exact ⟨a, is, rfl, SqL.of e, k _ F H (Ext.refl s) (.bl _)⟩
/-- the least, the greatest -/
def leastI : List Int → Option Int
  | [] => none
  | [i] => some i
  | i :: is => (leastI is).map fun j => if i ≤ j then i else j
theorem leastI_ok : ∀ {is : List Int} {m : Int}, leastI is = some m → m ∈ is ∧ ∀ y ∈ is, m ≤ y
  | [], m, h => by cases h
  | [i], m, h => by cases h; simp
  | i :: j :: is, m, h => by
    obtain ⟨k, h1, h2⟩ := Option.map_eq_some_iff.mp (show (leastI (j :: is)).map (fun j => if i ≤ j then i else j) = some m from h)
    obtain ⟨m1, m2⟩ := leastI_ok h1
    subst h2
    split
    · refine ⟨List.mem_cons_self, fun y hy => ?_⟩
      rcases List.mem_cons.mp hy with rfl | hy
      · exact Int.le_refl _
      · have := m2 y hy; omega
    · refine ⟨List.mem_cons_of_mem _ m1, fun y hy => ?_⟩
      rcases List.mem_cons.mp hy with rfl | hy
      · omega
      · exact m2 y hy
def fMin (d : D) : Option D := (lstD d).bind fun ds => (intsD ds).bind fun is => (leastI is).map .int
theorem cb_min : CB c (rMin c.K) (f1 fMin) := fun F H vs ds z Q s r h k => by
  obtain ⟨d, rfl, h⟩ := f1_some h
  obtain ⟨es, h1, h⟩ := Option.bind_eq_some_iff.mp h
  obtain ⟨is, h2, h⟩ := Option.bind_eq_some_iff.mp h
  obtain ⟨m, h3, rfl⟩ := Option.map_eq_some_iff.mp h
  obtain rfl := lstD_ok h1
  obtain ⟨v, rfl, r1⟩ := rbl1 r
  obtain ⟨a, xs, rfl, e, rl⟩ := r1.lst s
  obtain ⟨rfl, _⟩ := ints_ok rl h2
  obtain ⟨q1, q2⟩ := leastI_ok h3
  refine ⟨a, is, rfl, SqL.of e, List.length_pos_of_mem q1, fun m' hm' hle => ?_⟩
  have : m' = m := Int.le_antisymm (hle m q1) (q2 m' hm')
  subst this
  exact k _ F H (Ext.refl s) (.int _)
/-- tuple(xs), list(xs) -/
theorem cb_tuple : CB c (fun xs H Q => ∃ p ys, xs = [.ref p] ∧ ((SqL c.K H p ys ∧ ∀ l, H l = none → Q (.ref l) (upd H l (.tup ys))) ∨ (SqT c.K H p ys ∧ Q (.ref p) H))) (f1 fun d => (lstD d).map D.tup) := fun F H vs ds z Q s r h k => by
  obtain ⟨d, rfl, h⟩ := f1_some h
  obtain ⟨es, h1, rfl⟩ := Option.map_eq_some_iff.mp h
  obtain rfl := lstD_ok h1
  obtain ⟨v, rfl, r1⟩ := rbl1 r
  obtain ⟨a, xs, rfl, e, rl⟩ := r1.lst s
  refine ⟨a, xs, rfl, .inl ⟨SqL.of e, fun p hp => ?_⟩⟩
  have x2 : Ext F H (upd F p (.tup xs)) (upd H p (.tup xs)) := Ext.laid s hp
  exact k _ _ _ x2 (.obj upd_same (.tup (rl.mono x2.f)))
theorem none_of {F H : Hp} (s : Same F H) {p : Addr} (h : H p = none) : F p = none := by
  cases q : F p with
  | none => rfl
  | some o => rw [s p o q] at h; cases h
theorem co_list : CO c (fun xs H Q => ∃ p ys, xs = [.ref p] ∧ (SqL c.K H p ys ∨ SqT c.K H p ys) ∧ ∀ l, H l = none → Q (.ref l) (upd H l (.lst ys))) (f1 fun d => (seqD d).map D.lst) := fun F H vs ds z Q s r h k => by
  obtain ⟨d, rfl, h⟩ := f1_some h
  obtain ⟨es, h1, rfl⟩ := Option.map_eq_some_iff.mp h
  obtain ⟨v, rfl, r1⟩ := rbl1 r
  obtain ⟨a, xs, rfl, hq, rl⟩ := r1.seq s h1
  exact ⟨a, xs, rfl, hq, fun p hp => k p _ F _ (Ext.temp s hp) hp upd_same (none_of s hp) (.lst rl)⟩
/-- sorted ints -/
def insI (i : Int) : List Int → List Int
  | [] => [i]
  | j :: js => if i ≤ j then i :: j :: js else j :: insI i js
def sortI : List Int → List Int
  | [] => []
  | i :: is => insI i (sortI is)
theorem insI_perm (i : Int) : ∀ js, (insI i js).Perm (i :: js)
  | [] => List.Perm.refl _
  | j :: js => by
    unfold insI
    split
    · exact List.Perm.refl _
    · exact ((insI_perm i js).cons j).trans (List.Perm.swap i j js)
theorem sortI_perm : ∀ is, (sortI is).Perm is
  | [] => List.Perm.refl _
  | i :: is => (insI_perm i _).trans ((sortI_perm is).cons i)
theorem insI_sorted (i : Int) : ∀ js : List Int, js.Pairwise (· ≤ ·) → (insI i js).Pairwise (· ≤ ·)
  | [], _ => List.pairwise_singleton _ _
  | j :: js, h => by
    unfold insI
    obtain ⟨h1, h2⟩ := List.pairwise_cons.mp h
    split
    · rename_i hij
      refine List.pairwise_cons.mpr ⟨fun y hy => ?_, h⟩
      rcases List.mem_cons.mp hy with rfl | hy
      · exact hij
      · exact Int.le_trans hij (h1 y hy)
    · rename_i hij
      refine List.pairwise_cons.mpr ⟨fun y hy => ?_, insI_sorted i js h2⟩
      rcases List.mem_cons.mp ((insI_perm i js).mem_iff.mp hy) with rfl | hy
      · omega
      · exact h1 y hy
theorem sortI_sorted : ∀ is, (sortI is).Pairwise (· ≤ ·)
  | [] => List.Pairwise.nil
  | i :: is => insI_sorted i _ (sortI_sorted is)
theorem sorted_uniq : ∀ {a b : List Int}, a.Perm b → a.Pairwise (· ≤ ·) → b.Pairwise (· ≤ ·) → a = b
  | [], b, p, _, _ => (List.nil_perm.mp p).symm
  | x :: a, b, p, ha, hb => by
    cases b with
    | nil => exact absurd p.length_eq (by simp)
    | cons y b =>
      obtain ⟨h1, h2⟩ := List.pairwise_cons.mp ha
      obtain ⟨h3, h4⟩ := List.pairwise_cons.mp hb
      have e : x = y := by
        have m1 : x ∈ y :: b := p.mem_iff.mp List.mem_cons_self
        have m2 : y ∈ x :: a := p.mem_iff.mpr List.mem_cons_self
        rcases List.mem_cons.mp m1 with e | m1
        · exact e
        rcases List.mem_cons.mp m2 with e | m2
        · exact e.symm
        exact Int.le_antisymm (h1 y m2) (h3 x m1)
      subst e
      rw [sorted_uniq (List.Perm.cons_inv p) h2 h4]
def fSorted (d : D) : Option D := (lstD d).bind fun ds => (intsD ds).map fun is => .lst ((sortI is).map D.int)
theorem rpl_ints {K : PySem.W.Frag} {F : Hp} : ∀ is : List Int, RpL K F (is.map V.int) (is.map D.int)
  | [] => .nil
  | i :: is => .cons (.int i) (rpl_ints is)
theorem co_sorted : CO c (rSortedI c.K) (f1 fSorted) := fun F H vs ds z Q s r h k => by
  obtain ⟨d, rfl, h⟩ := f1_some h
  obtain ⟨es, h1, h⟩ := Option.bind_eq_some_iff.mp h
  obtain ⟨is, h2, rfl⟩ := Option.map_eq_some_iff.mp h
  obtain rfl := lstD_ok h1
  obtain ⟨v, rfl, r1⟩ := rbl1 r
  obtain ⟨a, xs, rfl, e, rl⟩ := r1.lst s
  obtain ⟨rfl, _⟩ := ints_ok rl h2
  refine ⟨a, is, rfl, SqL.of e, fun ns' p pm sr hp => ?_⟩
  obtain rfl := sorted_uniq (pm.trans (sortI_perm is).symm) sr (sortI_sorted is)
  exact k p _ F _ (Ext.temp s hp) hp upd_same (none_of s hp) (.lst (rpl_ints _))
end
end DL

namespace DL
open PySem PySem.Spec L2

section
variable {c : Cc} {ta tb tc : TE} {ma mb mc : M D}

/-! tests -/
def boolD : D → Option Bool
  | .bl b => some b
  | _ => none
theorem boolD_ok {d : D} {b : Bool} (h : boolD d = some b) : d = .bl b := by
  cases d <;> first
    | (cases h; rfl)
    | (cases h; done)
def mBool (m : M D) : M Bool := fun δ => (m δ).bind boolD
theorem mBool_some {m : M D} {δ : DS} {b : Bool} (h : mBool m δ = some b) : m δ = some (.bl b) := by
  obtain ⟨d, h1, h2⟩ := Option.bind_eq_some_iff.mp (show (m δ).bind boolD = some b from h)
  rw [h1, boolD_ok h2]
theorem tx_test (h : Bx c ta ma) : Tx c (tTest ta) (mBool ma) := fun δ σ F H Q b S e k => by
  refine h δ σ F H _ _ S (mBool_some e) fun v F1 H1 x1 r1 => ?_
  exact ⟨b, rp_bl (r1.h x1.s), k F1 H1 x1⟩
theorem tx_b (h : Bx c ta ma) : Tx c (tB ta) (mBool ma) := fun δ σ F H Q b S e k => by
  refine h δ σ F H _ _ S (mBool_some e) fun v F1 H1 x1 r1 => ?_
  exact ⟨b, rp_bl (r1.h x1.s), k F1 H1 x1⟩
/-- a value's truth -/
def truD : D → Option Bool
  | .non => some false
  | .bl b => some b
  | .int i => some (i != 0)
  | .tup ds => some (!ds.isEmpty)
  | .ktup ds => some (!ds.isEmpty)
  | .ftup ds => some (!ds.isEmpty)
  | .lst ds => some (!ds.isEmpty)
  | .dct false ks _ => some (!ks.isEmpty)
  | _ => none
theorem isEmpty_len {α β : Type} {a : List α} {b : List β} (h : a.length = b.length) : a.isEmpty = b.isEmpty := by
  cases a <;> cases b <;> first
    | rfl
    | (simp at h)
theorem tru_ok' {K : PySem.W.Frag} {F H : Hp} {v : V} {d : D} {b : Bool} (s : Same F H) (r : RB K F H v d) (h : truD d = some b) : TruV K v H b := by
  cases d with
  | non => cases h; obtain rfl := rp_non (r.h s); rfl
  | bl i => cases h; obtain rfl := rp_bl (r.h s); rfl
  | int i => cases h; obtain rfl := rp_int (r.h s); rfl
  | tup ds => cases h; obtain ⟨a, xs, rfl, e, rl⟩ := rp_tup (r.h s); exact .inr (.inl ⟨xs, SqT.of e, by rw [isEmpty_len rl.length]⟩)
  | ktup ds => cases h; obtain ⟨a, xs, rfl, e, rl⟩ := rp_ktup (r.h s); exact .inr (.inl ⟨xs, e, by rw [isEmpty_len rl.length]⟩)
  | ftup ds => cases h; obtain ⟨a, ob, xs, rfl, e, _, _, rl⟩ := rp_ftup (r.h s); exact .inr (.inl ⟨xs, sqt_frz e, by rw [isEmpty_len rl.length]⟩)
  | lst ds => cases h; obtain ⟨a, xs, rfl, e, rl⟩ := rp_lst (r.h s); exact .inl ⟨xs, SqL.of e, by rw [isEmpty_len rl.length]⟩
  | dct t ks vs =>
    cases t with
    | true => cases h
    | false =>
      cases h
      obtain ⟨a, kvs, rfl, e, rfl, rl⟩ := rp_dK (r.h s)
      exact .inr (.inr ⟨kvs, e, by rw [isEmpty_len (List.length_map ..)]⟩)
  | _ => cases h
def mTru (m : M D) : M Bool := fun δ => (m δ).bind truD
theorem tx_tru (h : Bx c ta ma) : Tx c (fun σ H Q => ta σ H fun x H' => ∃ k, TruV c.K x H' k ∧ Q k H') (mTru ma) := fun δ σ F H Q b S e k => by
  obtain ⟨d, h1, h2⟩ := Option.bind_eq_some_iff.mp (show (ma δ).bind truD = some b from e)
  refine h δ σ F H _ d S h1 fun v F1 H1 x1 r1 => ?_
  exact ⟨b, tru_ok' x1.s r1 h2, k F1 H1 x1⟩
def mAnd (m n : M Bool) : M Bool := fun δ => (m δ).bind fun b => if b then n δ else some false
def mOr (m n : M Bool) : M Bool := fun δ => (m δ).bind fun b => if b then some true else n δ
def mNot (m : M Bool) : M Bool := fun δ => (m δ).map fun b => !b
section
variable {t u : TT} {m n : M Bool}
theorem tx_and (h1 : Tx c t m) (h2 : Tx c u n) : Tx c (tAnd t u) (mAnd m n) := fun δ σ F H Q b S e k => by
  obtain ⟨b1, e1, e2⟩ := Option.bind_eq_some_iff.mp (show (m δ).bind (fun b => if b then n δ else some false) = some b from e)
  refine h1 δ σ F H _ b1 S e1 fun F1 H1 x1 => ?_
  cases b1 with
  | true => exact iteT (h2 δ σ F1 H1 _ b (S.up x1) e2 fun F2 H2 x2 => k F2 H2 (x1.trans x2))
  | false => cases e2; exact iteF (k F1 H1 x1)
theorem tx_or (h1 : Tx c t m) (h2 : Tx c u n) : Tx c (tOr t u) (mOr m n) := fun δ σ F H Q b S e k => by
  obtain ⟨b1, e1, e2⟩ := Option.bind_eq_some_iff.mp (show (m δ).bind (fun b => if b then some true else n δ) = some b from e)
  refine h1 δ σ F H _ b1 S e1 fun F1 H1 x1 => ?_
  cases b1 with
  | false => exact iteF (h2 δ σ F1 H1 _ b (S.up x1) e2 fun F2 H2 x2 => k F2 H2 (x1.trans x2))
  | true => cases e2; exact iteT (k F1 H1 x1)
theorem tx_not (h1 : Tx c t m) : Tx c (tNot t) (mNot m) := fun δ σ F H Q b S e k => by
  obtain ⟨b1, e1, e2⟩ := Option.map_eq_some_iff.mp (show (m δ).map (fun b => !b) = some b from e)
  subst e2
  exact h1 δ σ F H _ b1 S e1 fun F1 H1 x1 => k F1 H1 x1
def mIfE (m : M Bool) (ma mb : M D) : M D := fun δ => (m δ).bind fun b => if b then ma δ else mb δ
theorem ex_if (h1 : Tx c t m) (ha : Ex c ta ma) (hb : Ex c tb mb) : Ex c (tIf t ta tb) (mIfE m ma mb) := fun δ σ F H Q z S e k => by
  obtain ⟨b1, e1, e2⟩ := Option.bind_eq_some_iff.mp (show (m δ).bind (fun b => if b then ma δ else mb δ) = some z from e)
  refine h1 δ σ F H _ b1 S e1 fun F1 H1 x1 => ?_
  cases b1 with
  | true => exact iteT (ha δ σ F1 H1 _ z (S.up x1) e2 fun v F2 H2 x2 r2 => k v F2 H2 (x1.trans x2) r2)
  | false => exact iteF (hb δ σ F1 H1 _ z (S.up x1) e2 fun v F2 H2 x2 r2 => k v F2 H2 (x1.trans x2) r2)
end
def mAndV (ma mb : M D) : M D := fun δ => (ma δ).bind fun x => (boolD x).bind fun b => if b then mb δ else some (.bl false)
def mOrV (ma mb : M D) : M D := fun δ => (ma δ).bind fun x => (boolD x).bind fun b => if b then some (.bl true) else mb δ
def mNotV (ma : M D) : M D := fun δ => (ma δ).bind fun x => (boolD x).map fun b => .bl (!b)
theorem ex_and (ha : Bx c ta ma) (hb : Ex c tb mb) : Ex c (tAndV ta tb) (mAndV ma mb) := fun δ σ F H Q z S e k => by
  obtain ⟨x, e1, e2⟩ := Option.bind_eq_some_iff.mp (show (ma δ).bind (fun x => (boolD x).bind fun b => if b then mb δ else some (.bl false)) = some z from e)
  obtain ⟨b, e3, e4⟩ := Option.bind_eq_some_iff.mp e2
  obtain rfl := boolD_ok e3
  refine ha δ σ F H _ _ S e1 fun v F1 H1 x1 r1 => ?_
  refine ⟨b, rp_bl (r1.h x1.s), ?_⟩
  cases b with
  | true => exact iteT (hb δ σ F1 H1 _ z (S.up x1) e4 fun v F2 H2 x2 r2 => k v F2 H2 (x1.trans x2) r2)
  | false => cases e4; exact iteF (k _ F1 H1 x1 (.bl _))
theorem ex_or (ha : Bx c ta ma) (hb : Ex c tb mb) : Ex c (tOrV ta tb) (mOrV ma mb) := fun δ σ F H Q z S e k => by
  obtain ⟨x, e1, e2⟩ := Option.bind_eq_some_iff.mp (show (ma δ).bind (fun x => (boolD x).bind fun b => if b then some (.bl true) else mb δ) = some z from e)
  obtain ⟨b, e3, e4⟩ := Option.bind_eq_some_iff.mp e2
  obtain rfl := boolD_ok e3
  refine ha δ σ F H _ _ S e1 fun v F1 H1 x1 r1 => ?_
  refine ⟨b, rp_bl (r1.h x1.s), ?_⟩
  cases b with
  | false => exact iteF (hb δ σ F1 H1 _ z (S.up x1) e4 fun v F2 H2 x2 r2 => k v F2 H2 (x1.trans x2) r2)
  | true => cases e4; exact iteT (k _ F1 H1 x1 (.bl _))
theorem ex_not (ha : Bx c ta ma) : Ex c (tNotV ta) (mNotV ma) := fun δ σ F H Q z S e k => by
  obtain ⟨x, e1, e2⟩ := Option.bind_eq_some_iff.mp (show (ma δ).bind (fun x => (boolD x).map fun b => .bl (!b)) = some z from e)
  obtain ⟨b, e3, rfl⟩ := Option.map_eq_some_iff.mp e2
  obtain rfl := boolD_ok e3
  refine ha δ σ F H _ _ S e1 fun v F1 H1 x1 r1 => ?_
  exact ⟨b, rp_bl (r1.h x1.s), k _ F1 H1 x1 (.bl _)⟩
/-- a < b < c -/
def mChain (f g : D → D → Option D) (ma mb mc : M D) : M D := fun δ => (ma δ).bind fun x => (mb δ).bind fun y => (f x y).bind fun r => (boolD r).bind fun b => if b then (mc δ).bind fun z => g y z else some (.bl false)
theorem ex_chain {r r' : R2} {f g : D → D → Option D} (hf : OpB c r f) (hg : OpB c r' g) (ha : Bx c ta ma) (hb : Bx c tb mb) (hc : Bx c tc mc) : Ex c (tChain r r' ta tb tc) (mChain f g ma mb mc) := fun δ σ F H Q z S e k => by
  obtain ⟨x, e1, f1⟩ := Option.bind_eq_some_iff.mp (show (ma δ).bind (fun x => (mb δ).bind fun y => (f x y).bind fun r => (boolD r).bind fun b => if b then (mc δ).bind fun z => g y z else some (.bl false)) = some z from e)
  obtain ⟨y, e2, f2⟩ := Option.bind_eq_some_iff.mp f1
  obtain ⟨q, e3, f3⟩ := Option.bind_eq_some_iff.mp f2
  obtain ⟨b, e4, f4⟩ := Option.bind_eq_some_iff.mp f3
  have e5 := boolD_ok e4
  subst e5
  refine ha δ σ F H _ _ S e1 fun u F1 H1 x1 r1 => ?_
  refine hb δ σ F1 H1 _ _ (S.up x1) e2 fun v F2 H2 x2 r2 => ?_
  refine hf F2 H2 u v x y _ _ x2.s ((r1.up x2).h x2.s) (r2.h x2.s) e3 fun w F3 H3 x3 r3 => ?_
  refine ⟨b, rp_bl r3, ?_⟩
  cases b with
  | false => cases f4; exact iteF (k _ F3 H3 ((x1.trans x2).trans x3) (.bl _))
  | true =>
    obtain ⟨z', e5, e6⟩ := Option.bind_eq_some_iff.mp (show ((mc δ).bind fun z => g y z) = some z from f4)
    refine iteT (hc δ σ F3 H3 _ _ (((S.up x1).up x2).up x3) e5 fun w' F4 H4 x4 r4 => ?_)
    exact hg F4 H4 v w' y z' z Q x4.s (((r2.up x3).up x4).h x4.s) (r4.h x4.s) e6 fun v F5 H5 x5 r5 => k v F5 H5 ((((x1.trans x2).trans x3).trans x4).trans x5) r5

/-! statements -/
inductive Fl where
  | nx (δ : DS) | rt (d : D) | bk (δ : DS) | ct (δ : DS)
  deriving Inhabited
def FlOk (c : Cc) (F : Hp) (En : Ends) : Fl → Prop
  | .nx δ => ∀ σ F' H', SR c.K c.F0 c.H0 F' H' σ δ → Same F F' → En.nx σ H'
  | .bk δ => ∀ σ F' H', SR c.K c.F0 c.H0 F' H' σ δ → Same F F' → En.bk σ H'
  | .ct δ => ∀ σ F' H', SR c.K c.F0 c.H0 F' H' σ δ → Same F F' → En.ct σ H'
  | .rt d => ∀ v F' H', Ext c.F0 c.H0 F' H' → Rp c.K F' v d → En.rt v H'
theorem FlOk.up {F F' : Hp} {En : Ends} {fl : Fl} (h : FlOk c F En fl) (s : Same F F') : FlOk c F' En fl := by
  cases fl with
  | rt d => exact h
  | nx δ => exact fun σ F2 H2 S s2 => h σ F2 H2 S (s.trans s2)
  | bk δ => exact fun σ F2 H2 S s2 => h σ F2 H2 S (s.trans s2)
  | ct δ => exact fun σ F2 H2 S s2 => h σ F2 H2 S (s.trans s2)
def Sx (c : Cc) (t : TS) (m : M Fl) : Prop := ∀ (δ : DS) (σ : St) (F H : Hp) (En : Ends) (fl : Fl), SR c.K c.F0 c.H0 F H σ δ → m δ = some fl → FlOk c F En fl → t En σ H
def mNext : M Fl := fun δ => some (.nx δ)
theorem sx_next : Sx c tNext mNext := fun δ σ F H En fl S e k => by
  cases e
  exact k σ F H S (Same.refl F)
def mSeq (m n : M Fl) : M Fl := fun δ => match m δ with
  | some (.nx δ1) => n δ1
  | r => r
theorem sx_seq {t u : TS} {m n : M Fl} (h1 : Sx c t m) (h2 : Sx c u n) : Sx c (tSeq t u) (mSeq m n) := fun δ σ F H En fl S e k => by
  unfold mSeq at e
  cases q : m δ with
  | none => rw [q] at e; cases e
  | some f1 =>
    rw [q] at e
    refine h1 δ σ F H { En with nx := u En } f1 S q ?_
    cases f1 with
    | nx δ1 => exact fun σ1 F1 H1 S1 s1 => h2 δ1 σ1 F1 H1 En fl S1 e (k.up s1)
    | rt d => cases e; exact k
    | bk d => cases e; exact k
    | ct d => cases e; exact k
/-- an own thing is frozen ahead -/
def frz (i : Nat) (δ : DS) : DS := match δ[i]? with
  | some (SV.own d) => δ.set i (SV.fro d)
  | _ => δ
theorem sx_frz {t : TS} {m : M Fl} (i : Nat) (h : Sx c t m) : Sx c t (fun δ => m (frz i δ)) := fun δ σ F H En fl S e k => by
  have e' : m (frz i δ) = some fl := e
  unfold frz at e'
  split at e'
  · rename_i d q
    obtain ⟨F', s, S'⟩ := S.freeze q
    exact h _ σ F' H En fl S' e' (k.up s)
  · exact h δ σ F H En fl S e' k
def mRet (m : M D) : M Fl := fun δ => (m δ).map .rt
theorem sx_ret (h : Ex c ta ma) : Sx c (tRet ta) (mRet ma) := fun δ σ F H En fl S e k => by
  obtain ⟨d, e1, rfl⟩ := Option.map_eq_some_iff.mp (show (ma δ).map Fl.rt = some fl from e)
  exact h δ σ F H _ d S e1 fun v F' H' x r => k v F' H' (S.ext.trans x) r
theorem sx_retN : Sx c tRetN (fun _ => some (.rt .non)) := fun δ σ F H En fl S e k => by
  cases e
  exact k _ F H S.ext .non
def mIf (m : M Bool) (a b : M Fl) : M Fl := fun δ => (m δ).bind fun k => if k then a δ else b δ
theorem sx_if {t : TT} {m : M Bool} {u w : TS} {a b : M Fl} (h1 : Tx c t m) (ha : Sx c u a) (hb : Sx c w b) : Sx c (tIfS t u w) (mIf m a b) := fun δ σ F H En fl S e k => by
  obtain ⟨b1, e1, e2⟩ := Option.bind_eq_some_iff.mp (show (m δ).bind (fun k => if k then a δ else b δ) = some fl from e)
  refine h1 δ σ F H _ b1 S e1 fun F1 H1 x1 => ?_
  cases b1 with
  | true => exact iteT (ha δ σ F1 H1 En fl (S.up x1) e2 (k.up x1.f))
  | false => exact iteF (hb δ σ F1 H1 En fl (S.up x1) e2 (k.up x1.f))
/-- a way that is not taken -/
def mStop : M Fl := fun _ => none
theorem sx_stop {t : TS} : Sx c t mStop := fun δ σ F H En fl S e k => by cases e
theorem sx_break : Sx c tBreak (fun δ => some (.bk δ)) := fun δ σ F H En fl S e k => by
  cases e
  exact k σ F H S (Same.refl F)
theorem sx_cont : Sx c tCont (fun δ => some (.ct δ)) := fun δ σ F H En fl S e k => by
  cases e
  exact k σ F H S (Same.refl F)
theorem sx_expr (h : Bx c ta ma) : Sx c (tDrop ta) (fun δ => (ma δ).map fun _ => .nx δ) := fun δ σ F H En fl S e k => by
  obtain ⟨d, e1, rfl⟩ := Option.map_eq_some_iff.mp e
  exact h δ σ F H _ d S e1 fun v F' H' x r => k σ F' H' (S.up x) x.f
/-- targets -/
def Gx (c : Cc) (g : TG) (st : DS → D → Option DS) : Prop := ∀ (δ δ' : DS) (σ : St) (F H : Hp) (Q : St → Hp → Prop) (v : V) (d : D), SR c.K c.F0 c.H0 F H σ δ → Rp c.K F v d → st δ d = some δ' →
  (∀ σ', SR c.K c.F0 c.H0 F H σ' δ' → Q σ' H) → g v σ H Q
def stN (i : Nat) : DS → D → Option DS := fun δ d => some (δ.set i (SV.fro d))
theorem gx_name (i : Nat) : Gx c (gName i) (stN i) := fun δ δ' σ F H Q v d S r e k => by
  cases e
  exact k _ (S.set r)
def GsX (c : Cc) (g : TGs) (st : DS → List D → Option DS) : Prop := ∀ (δ δ' : DS) (σ : St) (F H : Hp) (Q : St → Hp → Prop) (vs : List V) (ds : List D), SR c.K c.F0 c.H0 F H σ δ → RpL c.K F vs ds → st δ ds = some δ' →
  (∀ σ', SR c.K c.F0 c.H0 F H σ' δ' → Q σ' H) → g vs σ H Q
def stNil : DS → List D → Option DS := fun δ ds => match ds with
  | [] => some δ
  | _ => none
def stCons (a : DS → D → Option DS) (b : DS → List D → Option DS) : DS → List D → Option DS := fun δ ds => match ds with
  | d :: ds => (a δ d).bind fun δ1 => b δ1 ds
  | [] => none
theorem gsx_nil : GsX c gNil stNil := fun δ δ' σ F H Q vs ds S r e k => by
  cases r with
  | nil => cases e; exact ⟨rfl, k σ S⟩
  | cons _ _ => cases e
theorem gsx_cons {g : TG} {gs : TGs} {a : DS → D → Option DS} {b : DS → List D → Option DS} (h1 : Gx c g a) (h2 : GsX c gs b) : GsX c (gCons g gs) (stCons a b) := fun δ δ' σ F H Q vs ds S r e k => by
  cases r with
  | nil => cases e
  | @cons v vs d ds r1 r2 =>
    obtain ⟨δ1, e1, e2⟩ := Option.bind_eq_some_iff.mp (show (a δ d).bind (fun δ1 => b δ1 ds) = some δ' from e)
    exact ⟨v, vs, rfl, h1 δ δ1 σ F H _ v d S r1 e1 fun σ1 S1 => h2 δ1 δ' σ1 F H Q vs ds S1 r2 e2 k⟩
def tupD : D → Option (List D)
  | .tup ds => some ds
  | .ktup ds => some ds
  | .ftup ds => some ds
  | _ => none
theorem tupD_ok {K : PySem.W.Frag} {F : Hp} {v : V} {d : D} {ds : List D} (r : Rp K F v d) (h : tupD d = some ds) : ∃ a xs, v = .ref a ∧ SqT K F a xs ∧ RpL K F xs ds := by
  cases d <;> first
    | (cases h; obtain ⟨a, xs, h1, h2, h3⟩ := rp_tup r; exact ⟨a, xs, h1, SqT.of h2, h3⟩)
    | (cases h; exact rp_ktup r)
    | (cases h; obtain ⟨a, ob, xs, h1, h2, _, _, h3⟩ := rp_ftup r; exact ⟨a, xs, h1, sqt_frz h2, h3⟩)
    | (cases h; done)
def stTup (n : Nat) (b : DS → List D → Option DS) : DS → D → Option DS := fun δ d => (tupD d).bind fun ds => if ds.length = n then b δ ds else none
theorem gx_tup {n : Nat} {gs : TGs} {b : DS → List D → Option DS} (h : GsX c gs b) : Gx c (gTup c.K n gs) (stTup n b) := fun δ δ' σ F H Q v d S r e k => by
  obtain ⟨ds, e1, e2⟩ := Option.bind_eq_some_iff.mp (show (tupD d).bind (fun ds => if ds.length = n then b δ ds else none) = some δ' from e)
  split at e2
  · rename_i hl
    obtain ⟨a, xs, rfl, hs, rl⟩ := tupD_ok r e1
    exact ⟨a, xs, rfl, same_seqT S.sFH hs, by rw [rl.length]; exact hl, h δ δ' σ F H Q xs ds S rl e2 k⟩
  · cases e2
def mAsg (m : M D) (st : DS → D → Option DS) : M Fl := fun δ => (m δ).bind fun d => (st δ d).map .nx
theorem sx_asg {g : TG} {st : DS → D → Option DS} (h : Ex c ta ma) (hg : Gx c g st) : Sx c (tAsg ta g) (mAsg ma st) := fun δ σ F H En fl S e k => by
  obtain ⟨d, e1, e2⟩ := Option.bind_eq_some_iff.mp (show (ma δ).bind (fun d => (st δ d).map Fl.nx) = some fl from e)
  obtain ⟨δ', e3, rfl⟩ := Option.map_eq_some_iff.mp e2
  refine h δ σ F H _ d S e1 fun v F' H' x r => ?_
  exact hg δ δ' σ F' H' _ v d (S.up x) r e3 fun σ' S' => k σ' F' H' S' x.f
/-- x = a new thing -/
def mOwn (i : Nat) (m : M D) : M Fl := fun δ => (m δ).bind fun d => if isOwnD d then some (.nx (δ.set i (SV.own d))) else none
theorem sx_own (i : Nat) (h : Ox c ta ma) : Sx c (tAsg ta (gName i)) (mOwn i ma) := fun δ σ F H En fl S e k => by
  obtain ⟨d, e1, e2⟩ := Option.bind_eq_some_iff.mp (show (ma δ).bind (fun d => if isOwnD d then some (Fl.nx (δ.set i (SV.own d))) else none) = some fl from e)
  split at e2
  · rename_i hd
    cases e2
    refine h δ σ F H _ d S e1 fun a o F' H' x hn ha hf r => ?_
    exact k _ F' H' (S.setOwn x hn ha hf r hd) x.f
  · cases e2
/-- a, b = e1, e2 -/
def mPar (i j : Nat) (m : M (List D)) : M Fl := fun δ => (m δ).bind fun ds => match ds with
  | [d, e] => some (.nx ((δ.set i (SV.fro d)).set j (SV.fro e)))
  | _ => none
theorem sx_par {i j : Nat} {t : TA} {m : M (List D)} (h : Ax c t m) : Sx c (tPar i j t) (mPar i j m) := fun δ σ F H En fl S e k => by
  obtain ⟨ds, e1, e2⟩ := Option.bind_eq_some_iff.mp (show (m δ).bind _ = some fl from e)
  refine h δ σ F H _ ds S e1 fun vs F' H' x r => ?_
  cases r with
  | nil => cases e2
  | cons r1 r =>
    cases r with
    | nil => cases e2
    | cons r2 r =>
      cases r with
      | nil => cases e2; exact ⟨_, _, rfl, k _ F' H' (((S.up x).set r1).set r2) x.f⟩
      | cons _ _ => cases e2
/-- x += e -/
def mAug (i : Nat) (f : D → D → Option D) (m : M D) : M Fl := fun δ => (mFro i δ).bind fun x => (m δ).bind fun y => (f x y).map fun z => .nx (δ.set i (SV.fro z))
theorem sx_aug {i : Nat} {r : R2} {f : D → D → Option D} (hf : OpB c r f) (h : Ex c ta ma) : Sx c (tAug i ta r) (mAug i f ma) := fun δ σ F H En fl S e k => by
  obtain ⟨x, e1, e⟩ := Option.bind_eq_some_iff.mp (show (mFro i δ).bind _ = some fl from e)
  obtain ⟨y, e2, e⟩ := Option.bind_eq_some_iff.mp e
  obtain ⟨z, e3, rfl⟩ := Option.map_eq_some_iff.mp e
  unfold mFro at e1
  split at e1
  · rename_i d q
    cases e1
    obtain ⟨v, h1, h2⟩ := S.fro i _ q
    refine ⟨v, h1, h δ σ F H _ y S e2 fun w F' H' x2 r2 => ?_⟩
    exact hf F' H' v w _ y z _ x2.s ((h2.mono x2.f).mono x2.s) (r2.mono x2.s) e3 fun u F3 H3 x3 r3 => k _ F3 H3 (((S.up x2).up x3).set r3) (x2.f.trans x3.f)
  · cases e1

/-! own lists and dicts -/
def ownLst (i : Nat) (δ : DS) : Option (List D) := match δ[i]? with
  | some (SV.own (.lst ds)) => some ds
  | _ => none
theorem ownLst_ok {i : Nat} {δ : DS} {ds : List D} (h : ownLst i δ = some ds) : δ[i]? = some (SV.own (.lst ds)) := by
  unfold ownLst at h
  split at h
  · rename_i q; cases h; exact q
  · cases h
theorem SR.ownL {K : PySem.W.Frag} {F0 H0 F H : Hp} {σ : St} {δ : DS} (S : SR K F0 H0 F H σ δ) {i : Nat} {ds : List D} (h : δ[i]? = some (SV.own (.lst ds))) :
    ∃ a xs, σ[i]? = some (some (V.ref a)) ∧ H a = some (.lst xs) ∧ RpL K F xs ds := by
  obtain ⟨a, o, h1, h2, h3, h4, h5⟩ := S.own i _ h
  cases h5 with
  | lst r => exact ⟨a, _, h1, h2, r⟩
/-- x.append(e) -/
def mAppend (i : Nat) (m : M D) : M Fl := fun δ => (ownLst i δ).bind fun ds => (m δ).bind fun d => if decide (ds.length < sizeLine) then some (.nx (δ.set i (SV.own (.lst (ds ++ [d]))))) else none
theorem sx_append (i : Nat) (h : Ex c ta ma) : Sx c (tDrop (tBM c.K "list" rAppend (tVar i) (tCons ta tNil))) (mAppend i ma) := fun δ σ F H En fl S e k => by
  obtain ⟨ds, e1, e⟩ := Option.bind_eq_some_iff.mp (show (ownLst i δ).bind _ = some fl from e)
  obtain ⟨d, e2, e⟩ := Option.bind_eq_some_iff.mp e
  split at e
  · rename_i hl
    cases e
    have q := ownLst_ok e1
    obtain ⟨a, xs, h1, h2, rl⟩ := S.ownL q
    refine ⟨.ref a, h1, .inl ⟨rfl, xs, SqL.of h2⟩, ?_⟩
    refine h δ σ F H _ d S e2 fun v F' H' x r => ?_
    obtain ⟨a', xs', h1', h2', rl'⟩ := (S.up x).ownL q
    rw [h1] at h1'; cases h1'
    refine ⟨a, xs', v, rfl, rfl, h2', by rw [rl'.length]; exact of_decide_eq_true hl, ?_⟩
    exact k σ F' _ ((S.up x).change q h1 (.lst (rl'.app (.cons r .nil))) rfl) x.f
  · cases e
/-- y = x.pop() -/
def mPop (i j : Nat) : M Fl := fun δ => (ownLst i δ).bind fun ds => (ds[ds.length - 1]?).bind fun d => some (.nx ((δ.set i (SV.own (.lst ds.dropLast))).set j (SV.fro d)))
theorem sx_pop (i j : Nat) : Sx c (tAsg (tBM0 c.K "list" rPop (tVar i)) (gName j)) (mPop i j) := fun δ σ F H En fl S e k => by
  obtain ⟨ds, e1, e⟩ := Option.bind_eq_some_iff.mp (show (ownLst i δ).bind _ = some fl from e)
  obtain ⟨d, e2, e⟩ := Option.bind_eq_some_iff.mp e
  cases e
  have q := ownLst_ok e1
  obtain ⟨a, xs, h1, h2, rl⟩ := S.ownL q
  obtain ⟨v, h3, r⟩ := rl.get e2
  refine ⟨.ref a, h1, .inl ⟨rfl, xs, SqL.of h2⟩, a, xs, v, rfl, rfl, h2, by rw [rl.length]; exact h3, ?_⟩
  exact k _ F _ ((S.change q h1 (.lst rl.dropLast) rfl).set r) (Same.refl F)
def dHas (ks : List D) (x : D) : Bool := ks.any fun k => beqK k x
def dPutV : List D → List D → D → D → List D
  | k :: ks, v :: vs, x, y => (if beqK k x then y else v) :: dPutV ks vs x y
  | _, _, _, _ => []
def dPutK (ks : List D) (x : D) : List D := if dHas ks x then ks else ks ++ [x]
def dPutW (ks vs : List D) (x y : D) : List D := if dHas ks x then dPutV ks vs x y else vs ++ [y]
theorem any_has {κ : Type} [DecidableEq κ] (g : κ → D) (hg : ∀ a b, beqK (g a) (g b) = decide (a = b)) (k : κ) : ∀ kvs : List (κ × V), dHas (kvs.map fun p => g p.1) (g k) = kvs.any fun kv => decide (kv.1 = k)
  | [] => rfl
  | p :: kvs => by
    have ih := any_has g hg k kvs
    unfold dHas at ih ⊢
    rw [List.map_cons, List.any_cons, List.any_cons, ih, hg]
theorem putK_put {κ : Type} [DecidableEq κ] {K : PySem.W.Frag} {F : Hp} (g : κ → D) (hg : ∀ a b, beqK (g a) (g b) = decide (a = b)) (k : κ) {v : V} {d : D} (r : Rp K F v d) {kvs : List (κ × V)} {vs : List D} (rl : RpL K F (kvs.map (·.2)) vs) :
    (putK kvs k v).map (fun p => g p.1) = dPutK (kvs.map fun p => g p.1) (g k) ∧ RpL K F ((putK kvs k v).map (·.2)) (dPutW (kvs.map fun p => g p.1) vs (g k) d) := by
  unfold putK dPutK dPutW
  rw [any_has g hg k kvs]
  by_cases h : (kvs.any fun kv => decide (kv.1 = k)) = true
  · rw [if_pos h, if_pos h, if_pos h]
    clear h
    constructor
    · rw [List.map_map]
      refine List.map_congr_left fun p _ => ?_
      show g (if p.1 = k then (p.1, v) else p).1 = g p.1
      split <;> rfl
    · induction kvs generalizing vs with
      | nil => cases rl; exact .nil
      | cons p kvs ih =>
        cases rl with
        | cons r1 r2 =>
          simp only [List.map_cons, dPutV, hg]
          refine .cons ?_ (ih r2)
          by_cases e : p.1 = k
          · simp only [e, decide_true, if_true]; exact r
          · simp only [e, decide_false, if_false, Bool.false_eq_true]; exact r1
  · rw [if_neg h, if_neg h, if_neg h, List.map_append, List.map_append]
    exact ⟨rfl, rl.app (.cons r .nil)⟩
/-- x[k] = e, x an own dict -/
def putD (d e y : D) : Option D := match d with
  | .dct false ks vs => (keyD e).map fun k => .dct false (dPutK ks (kD k)) (dPutW ks vs (kD k) y)
  | .dct true ks vs => match e with
    | .tup es => (keysD es).map fun k => .dct true (dPutK ks (.tup (k.map kD))) (dPutW ks vs (.tup (k.map kD)) y)
    | _ => none
  | _ => none
def smallD : D → Bool
  | .dct _ ks _ => decide (ks.length < sizeLine)
  | _ => false
def ownAt (i : Nat) (δ : DS) : Option D := match δ[i]? with
  | some (SV.own d) => some d
  | _ => none
theorem ownAt_ok {i : Nat} {δ : DS} {d : D} (h : ownAt i δ = some d) : δ[i]? = some (SV.own d) := by
  unfold ownAt at h
  split at h
  · rename_i q; cases h; exact q
  · cases h
def mPut (i : Nat) (mk mv : M D) : M Fl := fun δ => (mv δ).bind fun y => (ownAt i δ).bind fun d => (mk δ).bind fun e => if smallD d then (putD d e y).map fun d' => .nx (δ.set i (SV.own d')) else none
theorem sx_put {tk tv : TE} {mk mv : M D} (i : Nat) (hk : Ex c tk mk) (hv : Ex c tv mv) : Sx c (sDPut (tVar i) tk tv) (mPut i mk mv) := fun δ σ F H En fl S e k => by
  obtain ⟨y, e1, f1⟩ := Option.bind_eq_some_iff.mp (show (mv δ).bind _ = some fl from e)
  obtain ⟨d, e2, f2⟩ := Option.bind_eq_some_iff.mp f1
  obtain ⟨x, e3, f3⟩ := Option.bind_eq_some_iff.mp f2
  split at f3
  case isFalse => cases f3
  case isTrue hs =>
  obtain ⟨d', e4, rfl⟩ := Option.map_eq_some_iff.mp f3
  have q := ownAt_ok e2
  refine hv δ σ F H _ y S e1 fun v F1 H1 x1 r1 => ?_
  have S1 := S.up x1
  obtain ⟨a, _, h1, _⟩ := S1.own i d q
  refine ⟨.ref a, h1, ?_⟩
  refine hk δ σ F1 H1 _ x S1 e3 fun w F2 H2 x2 r2 => ?_
  have S2 := S1.up x2
  obtain ⟨a', o, h1', h2, h3, h4, h5⟩ := S2.own i d q
  rw [h1] at h1'; cases h1'
  unfold putD at e4
  split at e4
  · obtain ⟨ky, e5, rfl⟩ := Option.map_eq_some_iff.mp e4
    cases h5 with
    | @dK kvs ks vs hks rl =>
      subst hks
      obtain rfl := rp_key (by rw [← keyD_ok e5]; exact r2)
      obtain ⟨z1, z2⟩ := putK_put kD beqK_key ky (r1.mono x2.f) rl
      have hl : kvs.length < sizeLine := by
        have := of_decide_eq_true hs
        rw [List.length_map] at this
        exact this
      exact ⟨a, _, rfl, DPut.k (k := ky) h2 hl, k σ F2 _ (S2.change q h1 (.dK z1 z2) rfl) (x1.f.trans x2.f)⟩
  · split at e4
    · obtain ⟨ky, e5, rfl⟩ := Option.map_eq_some_iff.mp e4
      cases h5 with
      | @dT kvs ks vs hks rl =>
        subst hks
        obtain ⟨b, xs, rfl, e6, rk⟩ := rp_tup r2
        rw [keysD_ok e5] at rk
        obtain rfl := rp_keys rk
        obtain ⟨z1, z2⟩ := putK_put (fun k : List Key => D.tup (k.map kD)) beqK_tup ky (r1.mono x2.f) rl
        have hl : kvs.length < sizeLine := by
          have := of_decide_eq_true hs
          rw [List.length_map] at this
          exact this
        exact ⟨a, _, rfl, DPut.t (k := ky) h2 (x2.s _ _ e6) hl, k σ F2 _ (S2.change q h1 (.dT z1 z2) rfl) (x1.f.trans x2.f)⟩
    · cases e4
  · cases e4
end
end DL

namespace DL
open PySem PySem.Spec L2

section
variable {c : Cc} {ta tb tc : TE} {ma mb mc : M D}

/-! what is walked -/
structure Its (K : PySem.W.Frag) (J : It) (Fs : Hp) (ds : List D) : Prop where
  go : ∀ i F H, Same Fs F → Same F H → i < ds.length → J.go i H
  stop : ∀ F H, Same Fs F → Same F H → J.stop ds.length H
  yld : ∀ i F H x H' d, Same Fs F → Same F H → ds[i]? = some d → J.yld i H x H' → ∃ F', Ext F H F' H' ∧ Rp K F' x d
def Wx (c : Cc) (wi : TI) (m : M (List D)) : Prop := ∀ (δ : DS) (σ : St) (F H : Hp) (R : It → Hp → Prop) (ds : List D), SR c.K c.F0 c.H0 F H σ δ → m δ = some ds →
  (∀ J F' H', Ext F H F' H' → Its c.K J F' ds → R J H') → wi σ H R
theorem seqL_frz {K : PySem.W.Frag} {F H : Hp} {a : Addr} {xs : List V} (s : Same F H) (h : F a = some (.lst xs)) : SqL K H a xs := SqL.of (s _ _ h)
theorem its_list {K : PySem.W.Frag} {F : Hp} {a : Addr} {xs : List V} {ds : List D} (h : F a = some (.lst xs)) (r : RpL K F xs ds) : Its K (Itl K a) F ds where
  go := fun i F' H s1 s2 hi => by
    have hx : i < xs.length := by rw [r.length]; exact hi
    exact ⟨xs, xs[i], SqL.of (s2 _ _ (s1 _ _ h)), by simp [hx]⟩
  stop := fun F' H s1 s2 => ⟨xs, SqL.of (s2 _ _ (s1 _ _ h)), by rw [r.length]; exact Nat.le_refl _⟩
  yld := fun i F' H x H' d s1 s2 hd hy => by
    obtain ⟨e, hy⟩ := hy
    subst e
    obtain ⟨v, h1, h2⟩ := r.get hd
    have := hy xs (SqL.of (s2 _ _ (s1 _ _ h)))
    rw [h1] at this; cases this
    exact ⟨F', Ext.refl s2, h2.mono s1⟩
theorem its_tup {K : PySem.W.Frag} {F : Hp} {a : Addr} {xs : List V} {ds : List D} (h : SqT K F a xs) (r : RpL K F xs ds) : Its K (Itt K a) F ds where
  go := fun i F' H s1 s2 hi => by
    have hx : i < xs.length := by rw [r.length]; exact hi
    exact ⟨xs, xs[i], same_seqT s2 (same_seqT s1 h), by simp [hx]⟩
  stop := fun F' H s1 s2 => ⟨xs, same_seqT s2 (same_seqT s1 h), by rw [r.length]; exact Nat.le_refl _⟩
  yld := fun i F' H x H' d s1 s2 hd hy => by
    obtain ⟨e, hy⟩ := hy
    subst e
    obtain ⟨v, h1, h2⟩ := r.get hd
    have := hy xs (same_seqT s2 (same_seqT s1 h))
    rw [h1] at this; cases this
    exact ⟨F', Ext.refl s2, h2.mono s1⟩
def mItL (m : M D) : M (List D) := fun δ => (m δ).bind lstD
def mItT (m : M D) : M (List D) := fun δ => (m δ).bind tupD
theorem wx_list (h : Ex c ta ma) : Wx c (iList c.K ta) (mItL ma) := fun δ σ F H R ds S e k => by
  obtain ⟨d, e1, e2⟩ := Option.bind_eq_some_iff.mp (show (ma δ).bind lstD = some ds from e)
  obtain rfl := lstD_ok e2
  refine h δ σ F H _ _ S e1 fun v F' H' x r => ?_
  obtain ⟨a, xs, rfl, h1, rl⟩ := rp_lst r
  exact ⟨a, rfl, ⟨xs, SqL.of (x.s _ _ h1)⟩, k _ F' H' x (its_list h1 rl)⟩
theorem wx_tup (h : Ex c ta ma) : Wx c (iTup c.K ta) (mItT ma) := fun δ σ F H R ds S e k => by
  obtain ⟨d, e1, e2⟩ := Option.bind_eq_some_iff.mp (show (ma δ).bind tupD = some ds from e)
  refine h δ σ F H _ _ S e1 fun v F' H' x r => ?_
  obtain ⟨a, xs, rfl, h1, rl⟩ := tupD_ok r e2
  exact ⟨a, rfl, ⟨xs, same_seqT x.s h1⟩, k _ F' H' x (its_tup h1 rl)⟩
def rangeD (lo : Int) : Nat → List D
  | 0 => []
  | n + 1 => .int lo :: rangeD (lo + 1) n
theorem rangeD_len (lo : Int) (n : Nat) : (rangeD lo n).length = n := by
  induction n generalizing lo with
  | zero => rfl
  | succ n ih => simp [rangeD, ih]
theorem rangeD_get (lo : Int) (n i : Nat) (d : D) (h : (rangeD lo n)[i]? = some d) : d = .int (lo + i) := by
  induction n generalizing lo i with
  | zero => simp [rangeD] at h
  | succ n ih =>
    cases i with
    | zero => simp [rangeD] at h; subst h; simp
    | succ i =>
      simp [rangeD] at h
      have := ih (lo + 1) i h
      rw [this]
      congr 1
      omega
theorem its_range {K : PySem.W.Frag} {F : Hp} (lo : Int) (n : Nat) : Its K (Itr lo n) F (rangeD lo n) where
  go := fun i F' H s1 s2 hi => by rw [rangeD_len] at hi; exact hi
  stop := fun F' H s1 s2 => by rw [rangeD_len]; exact Nat.le_refl _
  yld := fun i F' H x H' d s1 s2 hd hy => by
    obtain ⟨e, hy⟩ := hy
    subst e
    have := rangeD_get lo n i d hd
    subst this hy
    exact ⟨F', Ext.refl s2, .int _⟩
def okI (i : Int) : Bool := decide (-(2 ^ 62) ≤ i) && decide (i < 2 ^ 62)
theorem okI_ok {i : Int} (h : okI i = true) : -(2 ^ 62) ≤ i ∧ i < 2 ^ 62 := by
  unfold okI at h
  simp only [Bool.and_eq_true, decide_eq_true_eq] at h
  exact h
def fRng : List D → Option (List D)
  | [.int j] => if okI j then some (rangeD 0 j.toNat) else none
  | [.int i, .int j] => if okI i && okI j then some (rangeD i (j - i).toNat) else none
  | _ => none
def mRng (m : M (List D)) : M (List D) := fun δ => (m δ).bind fRng
theorem wx_range1 {t : TA} {m : M (List D)} (h : AB c t m) (h1 : ∀ δ ds, m δ = some ds → ds.length = 1) : Wx c (iRng1 t) (mRng m) := fun δ σ F H R ds S e k => by
  obtain ⟨as, e1, e2⟩ := Option.bind_eq_some_iff.mp (show (m δ).bind fRng = some ds from e)
  refine h δ σ F H _ _ S e1 fun vs F' H' x r => ?_
  have hl := h1 δ as e1
  have rh := RBL.h x.s r
  unfold fRng at e2
  split at e2
  · split at e2
    · rename_i j hj
      cases e2
      obtain ⟨q1, q2⟩ := okI_ok hj
      obtain ⟨v, rfl, r1⟩ := rbl1 r
      obtain rfl := rp_int (r1.h x.s)
      exact ⟨j, rfl, q1, q2, k _ F' H' x (its_range _ _)⟩
    · cases e2
  · simp at hl
  · cases e2
theorem wx_range2 {t : TA} {m : M (List D)} (h : AB c t m) (h1 : ∀ δ ds, m δ = some ds → ds.length = 2) : Wx c (iRng2 t) (mRng m) := fun δ σ F H R ds S e k => by
  obtain ⟨as, e1, e2⟩ := Option.bind_eq_some_iff.mp (show (m δ).bind fRng = some ds from e)
  refine h δ σ F H _ _ S e1 fun vs F' H' x r => ?_
  have hl := h1 δ as e1
  unfold fRng at e2
  split at e2
  · simp at hl
  · split at e2
    · rename_i i j hj
      simp only [Bool.and_eq_true] at hj
      cases e2
      obtain ⟨q1, q2⟩ := okI_ok hj.1
      obtain ⟨q3, q4⟩ := okI_ok hj.2
      obtain ⟨v, w, rfl, r1, r2⟩ := rbl2 r
      obtain rfl := rp_int (r1.h x.s)
      obtain rfl := rp_int (r2.h x.s)
      exact ⟨i, j, rfl, ⟨q1, q2, q3, q4⟩, k _ F' H' x (its_range _ _)⟩
    · cases e2
  · cases e2
theorem mCons_len {m : M D} {n : M (List D)} {l : Nat} (h : ∀ δ ds, n δ = some ds → ds.length = l) : ∀ δ ds, mCons m n δ = some ds → ds.length = l + 1 := fun δ ds e => by
  obtain ⟨d, es, _, e2, rfl⟩ := mCons_some e
  rw [List.length_cons, h δ es e2]
theorem mNil_len : ∀ δ ds, mNil δ = some ds → ds.length = 0 := fun δ ds e => by cases e; rfl

/-! for -/
def loopF (st : DS → D → Option DS) (b : M Fl) : List D → DS → Option Fl
  | [], δ => some (.nx δ)
  | d :: ds, δ => match st δ d with
    | none => none
    | some δ1 => match b δ1 with
      | some (.nx δ2) => loopF st b ds δ2
      | some (.ct δ2) => loopF st b ds δ2
      | some (.bk δ2) => some (.nx δ2)
      | some (.rt v) => some (.rt v)
      | none => none
def mFor (m : M (List D)) (st : DS → D → Option DS) (b : M Fl) : M Fl := fun δ => (m δ).bind fun ds => loopF st b ds δ
theorem drop_get {α : Type} {l : List α} {i : Nat} {x : α} {r : List α} (h : l.drop i = x :: r) : l[i]? = some x ∧ l.drop (i + 1) = r ∧ i < l.length := by
  have h1 : i < l.length := by
    cases Nat.lt_or_ge i l.length with
    | inl h => exact h
    | inr h' => rw [List.drop_eq_nil_of_le h'] at h; cases h
  rw [List.drop_eq_getElem_cons h1] at h
  injection h with h2 h3
  exact ⟨by rw [List.getElem?_eq_getElem h1, h2], h3, h1⟩
theorem sx_for {wi : TI} {g : TG} {st : DS → D → Option DS} {tb : TS} {b : M Fl} {m : M (List D)} (hw : Wx c wi m) (hg : Gx c g st) (hb : Sx c tb b) : Sx c (tFor wi g tb) (mFor m st b) := fun δ σ F H En fl S e k => by
  obtain ⟨ds, e1, e2⟩ := Option.bind_eq_some_iff.mp (show (m δ).bind (fun ds => loopF st b ds δ) = some fl from e)
  refine hw δ σ F H _ ds S e1 fun J F1 H1 x1 it => ?_
  refine ⟨fun i n σ H => n = ds.length - i ∧ i ≤ ds.length ∧ ∃ δ' F', SR c.K c.F0 c.H0 F' H σ δ' ∧ Same F1 F' ∧ loopF st b (ds.drop i) δ' = some fl, ⟨ds.length, by simp, Nat.zero_le _, δ, F1, S.up x1, Same.refl _, e2⟩, ?_⟩
  rintro i n σ2 H2 ⟨rfl, hi, δ2, F2, S2, s2, e3⟩
  by_cases hlt : i < ds.length
  · refine .inr ⟨it.go i F2 H2 s2 S2.sFH hlt, ?_⟩
    cases q : ds.drop i with
    | nil =>
      have := congrArg List.length q
      rw [List.length_drop] at this
      simp at this
      omega
    | cons d r =>
      obtain ⟨g1, g2, _⟩ := drop_get q
      rw [q] at e3
      unfold loopF at e3
      refine ⟨fun σ' H' => ∃ δ' F', SR c.K c.F0 c.H0 F' H' σ' δ' ∧ Same F1 F' ∧ loopF st b (ds.drop (i + 1)) δ' = some fl, fun σ' H' ⟨δ', F', z1, z2, z3⟩ => ⟨_, by omega, rfl, hlt, δ', F', z1, z2, z3⟩, fun x H3 y => ?_⟩
      obtain ⟨F3, x3, r3⟩ := it.yld i F2 H2 x H3 d s2 S2.sFH g1 y
      cases q1 : st δ2 d with
      | none => rw [q1] at e3; cases e3
      | some δ3 =>
        rw [q1] at e3
        dsimp only at e3
        refine hg δ2 δ3 σ2 F3 H3 _ x d (S2.up x3) r3 q1 fun σ4 S4 => ?_
        cases q2 : b δ3 with
        | none => rw [q2] at e3; cases e3
        | some f =>
          rw [q2] at e3
          refine hb δ3 σ4 F3 H3 _ f S4 q2 ?_
          have s3 : Same F1 F3 := s2.trans x3.f
          cases f with
          | nx δ5 => exact fun σ' F' H' S' s' => ⟨δ5, F', S', s3.trans s', by rw [g2]; exact e3⟩
          | ct δ5 => exact fun σ' F' H' S' s' => ⟨δ5, F', S', s3.trans s', by rw [g2]; exact e3⟩
          | bk δ5 =>
            cases e3
            exact fun σ' F' H' S' s' => k σ' F' H' S' (x1.f.trans (s3.trans s'))
          | rt v =>
            cases e3
            exact k
  · have e : i = ds.length := by omega
    subst e
    rw [List.drop_length] at e3
    cases e3
    exact .inl ⟨it.stop F2 H2 s2 S2.sFH, k σ2 F2 H2 S2 (x1.f.trans s2)⟩

/-! while -/
def loopW (t : M Bool) (b : M Fl) : Nat → DS → Option Fl
  | 0, _ => none
  | n + 1, δ => match t δ with
    | none => none
    | some false => some (.nx δ)
    | some true => match b δ with
      | some (.nx δ2) => loopW t b n δ2
      | some (.ct δ2) => loopW t b n δ2
      | some (.bk δ2) => some (.nx δ2)
      | some (.rt v) => some (.rt v)
      | none => none
def mWhile (n : Nat) (t : M Bool) (b : M Fl) : M Fl := fun δ => loopW t b n δ
theorem sx_while (n : Nat) {t : TT} {m : M Bool} {tb : TS} {b : M Fl} (ht : Tx c t m) (hb : Sx c tb b) : Sx c (tWhile t tb) (mWhile n m b) := fun δ σ F H En fl S e k => by
  refine ⟨fun i σ H => ∃ δ' F', SR c.K c.F0 c.H0 F' H σ δ' ∧ Same F F' ∧ loopW m b i δ' = some fl, ⟨n, δ, F, S, Same.refl _, e⟩, ?_⟩
  rintro i σ2 H2 ⟨δ2, F2, S2, s2, e2⟩
  cases i with
  | zero => cases e2
  | succ i =>
    unfold loopW at e2
    cases q : m δ2 with
    | none => rw [q] at e2; cases e2
    | some k1 =>
      rw [q] at e2
      refine ht δ2 σ2 F2 H2 _ k1 S2 q fun F3 H3 x3 => ?_
      cases k1 with
      | false =>
        cases e2
        exact iteF (k σ2 F3 H3 (S2.up x3) (s2.trans x3.f))
      | true =>
        refine iteT ⟨fun σ' H' => ∃ δ' F', SR c.K c.F0 c.H0 F' H' σ' δ' ∧ Same F F' ∧ loopW m b i δ' = some fl, fun σ' H' z => ⟨i, Nat.lt_succ_self i, z⟩, ?_⟩
        dsimp only at e2
        cases q2 : b δ2 with
        | none => rw [q2] at e2; cases e2
        | some f =>
          rw [q2] at e2
          refine hb δ2 σ2 F3 H3 _ f (S2.up x3) q2 ?_
          have s3 : Same F F3 := s2.trans x3.f
          cases f with
          | nx δ5 => exact fun σ' F' H' S' s' => ⟨δ5, F', S', s3.trans s', e2⟩
          | ct δ5 => exact fun σ' F' H' S' s' => ⟨δ5, F', S', s3.trans s', e2⟩
          | bk δ5 =>
            cases e2
            exact fun σ' F' H' S' s' => k σ' F' H' S' (s3.trans s')
          | rt v =>
            cases e2
            exact k

/-! comprehensions, one for -/
def loopC (st : DS → D → Option DS) (t : M Bool) (m : M D) (δ : DS) : List D → Option (List D)
  | [] => some []
  | d :: ds => match st δ d with
    | none => none
    | some δ1 => match t δ1 with
      | some true => match m δ1 with
        | some y => (loopC st t m δ ds).map fun r => y :: r
        | none => none
      | some false => loopC st t m δ ds
      | none => none
/-- the slots of a comprehension's own names forgotten -/
def wipeD (δ : DS) : List Nat → DS
  | [] => δ
  | v :: vs => (wipeD δ vs).set v SV.unk
theorem SR.wipes {K : PySem.W.Frag} {F0 H0 F H : Hp} {σ : St} {δ : DS} (S : SR K F0 H0 F H σ δ) : ∀ vs : List Nat, SR K F0 H0 F H (L2.wipe σ vs) (wipeD δ vs)
  | [] => S
  | v :: vs => (SR.wipes S vs).wipe v
/-- a target that stores at the slots vs alone -/
def Gw (c : Cc) (g : TG) (st : DS → D → Option DS) (vs : List Nat) : Prop := ∀ (δ δ' : DS) (σ : St) (F H : Hp) (Q : St → Hp → Prop) (v : V) (d : D), SR c.K c.F0 c.H0 F H (L2.wipe σ vs) δ → Rp c.K F v d → st δ d = some δ' →
  (∀ σ', SR c.K c.F0 c.H0 F H σ' δ' → L2.wipe σ' vs = L2.wipe σ vs → Q σ' H) → g v (L2.wipe σ vs) H Q
theorem gw_name (i : Nat) : Gw c (gName i) (stN i) [i] := fun δ δ' σ F H Q v d S r e k => by
  cases e
  refine k _ (S.set r) ?_
  show (((σ.set i none).set i (some v)).set i none) = σ.set i none
  rw [List.set_set, List.set_set]
def mLc (vs : List Nat) (w : M (List D)) (st : DS → D → Option DS) (t : M Bool) (m : M D) : M D := fun δ => (w δ).bind fun ds => if decide (ds.length < sizeLine) then (loopC st t m (wipeD δ vs) ds).map .lst else none
theorem ox_lc {wi : TI} {g : TG} {st : DS → D → Option DS} {tt : TT} {t : M Bool} {te : TE} {m : M D} {w : M (List D)} {vs : List Nat} (hw : Wx c wi w) (hg : Gw c g st vs) (ht : Tx c tt t) (he : Ex c te m) :
    Ox c (tLc wi g tt te vs) (mLc vs w st t m) := fun δ σ F H Q z S e k => by
  obtain ⟨ds, e1, e2⟩ := Option.bind_eq_some_iff.mp (show (w δ).bind _ = some z from e)
  split at e2
  case isFalse => cases e2
  case isTrue hl =>
  have hl := of_decide_eq_true hl
  obtain ⟨res, e3, rfl⟩ := Option.map_eq_some_iff.mp e2
  refine hw δ σ F H _ ds S e1 fun J F1 H1 x1 it A hA => ?_
  have hFA : F1 A = none := none_of x1.s hA
  have xA : Ext F1 H1 F1 (upd H1 A (.lst [])) := Ext.temp x1.s hA
  refine ⟨fun i n H' => n = ds.length - i ∧ i ≤ ds.length ∧ ∃ F' acc out rst, Ext F1 H1 F' H' ∧ F' A = none ∧ H' A = some (.lst acc) ∧ RpL c.K F' acc out ∧ acc.length ≤ i ∧ loopC st t m (wipeD δ vs) (ds.drop i) = some rst ∧ res = out ++ rst,
    ⟨ds.length, by simp, Nat.zero_le _, F1, [], [], res, xA, hFA, upd_same, .nil, Nat.le_refl _, e3, rfl⟩, ?_⟩
  rintro i n H2 ⟨rfl, hi, F2, acc, out, rst, x2, hF2, hH2, rl, ha, e4, e5⟩
  by_cases hlt : i < ds.length
  · refine .inr ⟨it.go i F2 H2 x2.f x2.s hlt, ?_⟩
    cases q : ds.drop i with
    | nil =>
      have := congrArg List.length q
      rw [List.length_drop] at this
      simp at this
      omega
    | cons d r =>
      obtain ⟨g1, g2, _⟩ := drop_get q
      rw [q] at e4
      unfold loopC at e4
      refine ⟨fun H' => ∃ F' acc out rst, Ext F1 H1 F' H' ∧ F' A = none ∧ H' A = some (.lst acc) ∧ RpL c.K F' acc out ∧ acc.length ≤ i + 1 ∧ loopC st t m (wipeD δ vs) (ds.drop (i + 1)) = some rst ∧ res = out ++ rst, fun H' z => ⟨_, by omega, rfl, hlt, z⟩, fun x H3 y => ?_⟩
      obtain ⟨F3, x3, r3⟩ := it.yld i F2 H2 x H3 d x2.f x2.s g1 y
      have S3 : SR c.K c.F0 c.H0 F3 H3 (L2.wipe σ vs) (wipeD δ vs) := (((S.up x1).up x2).up x3).wipes vs
      have hF3 : F3 A = none := x3.n A _ hF2 hH2 rfl
      have hH3 : H3 A = some (.lst acc) := x3.h A _ hH2
      cases q1 : st (wipeD δ vs) d with
      | none => rw [q1] at e4; cases e4
      | some δ3 =>
        rw [q1] at e4
        dsimp only at e4
        refine hg _ δ3 σ F3 H3 _ x d S3 r3 q1 fun σ4 S4 hw4 => ⟨hw4, ?_⟩
        cases q2 : t δ3 with
        | none => rw [q2] at e4; cases e4
        | some k1 =>
          rw [q2] at e4
          refine ht δ3 σ4 F3 H3 _ k1 S4 q2 fun F5 H5 x5 => ?_
          have hF5 : F5 A = none := x5.n A _ hF3 hH3 rfl
          have hH5 : H5 A = some (.lst acc) := x5.h A _ hH3
          cases k1 with
          | false =>
            refine iteF ⟨F5, acc, out, rst, (x2.trans x3).trans x5, hF5, hH5, (rl.mono x3.f).mono x5.f, by omega, by rw [g2]; exact e4, e5⟩
          | true =>
            dsimp only at e4
            cases q3 : m δ3 with
            | none => rw [q3] at e4; cases e4
            | some yv =>
              rw [q3] at e4
              obtain ⟨rst', e6, e7⟩ := Option.map_eq_some_iff.mp e4
              refine iteT (he δ3 σ4 F5 H5 _ yv (S4.up x5) q3 fun v F6 H6 x6 r6 => ?_)
              have hF6 : F6 A = none := x6.n A _ hF5 hH5 rfl
              have hH6 : H6 A = some (.lst acc) := x6.h A _ hH5
              have hx : Ext F1 H1 F6 H6 := ((x2.trans x3).trans x5).trans x6
              refine ⟨acc, hH6, by omega, F6, acc ++ [v], out ++ [yv], rst', ⟨hx.f, fun b o z => ?_, fun b o z => ?_, hx.n⟩, hF6, upd_same, ((rl.mono x3.f).mono x5.f |>.mono x6.f).app (.cons r6 .nil), by rw [List.length_append]; simp; omega, by rw [g2]; exact e6, by rw [e5, ← e7, List.append_assoc]; rfl⟩
              · rw [upd_ne (ne_of_none z hA)]; exact hx.h b o z
              · rw [upd_ne (ne_of_none z hF6)]; exact hx.s b o z
  · have e : i = ds.length := by omega
    subst e
    rw [List.drop_length] at e4
    cases e4
    rw [List.append_nil] at e5
    subst e5
    refine .inl ⟨it.stop F2 H2 x2.f x2.s, k A _ F2 H2 (x1.trans x2) (ext_none x1 hA).2 hH2 hF2 (.lst rl)⟩
theorem tx_yes : Tx c tYes (fun _ => some true) := fun δ σ F H Q b S e k => by
  cases e
  exact k F H (Ext.refl S.sFH)

/-! a def's body -/
def initD (n : Nat) (ds : List D) : DS := ds.map SV.fro ++ List.replicate (n - ds.length) SV.unk
def runD (n : Nat) (m : M Fl) (ds : List D) : Option D := match m (initD n ds) with
  | some (.rt d) => some d
  | some (.nx _) => some .non
  | _ => none
theorem start_get {K : PySem.W.Frag} {F : Hp} {n : Nat} : ∀ {vs : List V} {ds : List D}, RpL K F vs ds → ∀ (i : Nat) (d : D), (initD n ds)[i]? = some (SV.fro d) → ∃ v, (vs.map some ++ List.replicate (n - vs.length) none)[i]? = some (some v) ∧ Rp K F v d := by
  intro vs ds r i d h
  unfold initD at h
  by_cases hi : i < ds.length
  · rw [List.getElem?_append_left (by rw [List.length_map]; exact hi), List.getElem?_map] at h
    obtain ⟨d', h1, h2⟩ := Option.map_eq_some_iff.mp h
    cases h2
    obtain ⟨v, h3, h4⟩ := r.get h1
    exact ⟨v, by rw [List.getElem?_append_left (by rw [List.length_map, r.length]; exact hi), List.getElem?_map, h3]; rfl, h4⟩
  · rw [List.getElem?_append_right (by rw [List.length_map]; omega)] at h
    have := List.mem_of_getElem? h
    rw [List.mem_replicate] at this
    cases this.2
theorem start_own {n : Nat} {ds : List D} (i : Nat) (d : D) (h : (initD n ds)[i]? = some (SV.own d)) : False := by
  unfold initD at h
  have := List.mem_of_getElem? h
  rcases List.mem_append.mp this with h | h
  · obtain ⟨_, _, e⟩ := List.mem_map.mp h
    cases e
  · have := (List.mem_replicate.mp h).2
    cases this
theorem sr_start {K : PySem.W.Frag} {F H : Hp} {N : List Str} {vs : List V} {ds : List D} (s : Same F H) (r : RpL K F vs ds) : SR K F H F H (L2.start N vs) (initD N.length ds) where
  ext := Ext.refl s
  len := by
    unfold L2.start initD
    rw [List.length_append, List.length_append, List.length_map, List.length_map, List.length_replicate, List.length_replicate, r.length]
  fro := fun i d h => start_get r i d h
  own := fun i d h => (start_own i d h).elim
  nt := fun i d h => (start_own i d h).elim
  dis := fun i j a d e h _ _ _ => (start_own i d h).elim
theorem body_of {X : Cx} {body : List Stmt} {t : TS} {m : M Fl} {N : List Str} {n : Nat} {K : PySem.W.Frag} {vs : List V} {H : Hp} {Q : VK} {E : XK} {r : List D → Option D} (p : PSs X body t) (sx : ∀ F0 H0, Sx ⟨K, F0, H0⟩ t m) (hr : r = runD N.length m) (h : spD K n r vs H Q E) :
    ∃ t, PSs X body t ∧ t { nx := fun _ H' => Q .non H', rt := Q } (L2.start N vs) H := by
  obtain ⟨F, ds, d, s, rl, hl, e, k⟩ := h
  refine ⟨t, p, ?_⟩
  subst hr
  unfold runD at e
  cases q : m (initD N.length ds) with
  | none => rw [q] at e; cases e
  | some fl =>
    rw [q] at e
    refine sx F H (initD N.length ds) _ F H _ fl (sr_start s rl) q ?_
    cases fl with
    | nx δ =>
      cases e
      exact fun σ F' H' S _ => k _ F' H' S.ext .non
    | rt d' =>
      cases e
      exact fun v F' H' x r => k v F' H' x r
    | bk _ => cases e
    | ct _ => cases e
end
end DL

/-! hand rules: sorted of tuples of ints -/
namespace DL
open PySem PySem.Spec L2 PySem.W

/-- the order of lists of ints, by a reckoning that ends in the kernel -/
def lexB : List Int → List Int → Bool
  | [], _ => true
  | _ :: _, [] => false
  | x :: xs, y :: ys => if x < y then true else if y < x then false else lexB xs ys
theorem lexB_iff : ∀ a b : List Int, lexB a b = decide (a ≤ b)
  | [], b => by simp [lexB]
  | x :: xs, [] => by
    have : ¬ (x :: xs ≤ ([] : List Int)) := by simp
    simp [lexB, this]
  | x :: xs, y :: ys => by
    unfold lexB
    rw [lexB_iff xs ys]
    have key : (x :: xs ≤ y :: ys) ↔ (x < y ∨ (x = y ∧ xs ≤ ys)) := by
      rw [List.cons_le_cons_iff]
    by_cases h1 : x < y
    · rw [if_pos h1, decide_eq_true (key.mpr (.inl h1))]
    · rw [if_neg h1]
      by_cases h2 : y < x
      · rw [if_pos h2, decide_eq_false fun q => ?_]
        rcases key.mp q with q | ⟨q, _⟩ <;> omega
      · rw [if_neg h2]
        have e : x = y := by omega
        subst e
        rw [Bool.eq_iff_iff, decide_eq_true_eq, decide_eq_true_eq, key]
        constructor
        · exact fun q => .inr ⟨rfl, q⟩
        · rintro (q | ⟨_, q⟩)
          · omega
          · exact q
def insL (i : List Int) : List (List Int) → List (List Int)
  | [] => [i]
  | j :: js => if lexB i j then i :: j :: js else j :: insL i js
def sortL : List (List Int) → List (List Int)
  | [] => []
  | i :: is => insL i (sortL is)
theorem insL_perm (i : List Int) : ∀ js, (insL i js).Perm (i :: js)
  | [] => List.Perm.refl _
  | j :: js => by
    unfold insL
    split
    · exact List.Perm.refl _
    · exact ((insL_perm i js).cons j).trans (List.Perm.swap i j js)
theorem sortL_perm : ∀ is, (sortL is).Perm is
  | [] => List.Perm.refl _
  | i :: is => (insL_perm i _).trans ((sortL_perm is).cons i)
theorem le_tot (a b : List Int) : a ≤ b ∨ b ≤ a := List.le_total a b
theorem insL_sorted (i : List Int) : ∀ js : List (List Int), js.Pairwise (· ≤ ·) → (insL i js).Pairwise (· ≤ ·)
  | [], _ => List.pairwise_singleton _ _
  | j :: js, h => by
    unfold insL
    rw [lexB_iff]
    obtain ⟨h1, h2⟩ := List.pairwise_cons.mp h
    by_cases hij : i ≤ j
    · rw [decide_eq_true hij, if_pos rfl]
      refine List.pairwise_cons.mpr ⟨fun y hy => ?_, h⟩
      rcases List.mem_cons.mp hy with rfl | hy
      · exact hij
      · exact List.le_trans hij (h1 y hy)
    · rw [decide_eq_false hij, if_neg Bool.false_ne_true]
      have hji : j ≤ i := (le_tot i j).resolve_left hij
      refine List.pairwise_cons.mpr ⟨fun y hy => ?_, insL_sorted i js h2⟩
      rcases List.mem_cons.mp ((insL_perm i js).mem_iff.mp hy) with rfl | hy
      · exact hji
      · exact h1 y hy
theorem sortL_sorted : ∀ is, (sortL is).Pairwise (· ≤ ·)
  | [] => List.Pairwise.nil
  | i :: is => insL_sorted i _ (sortL_sorted is)
theorem sortL_uniq : ∀ {a b : List (List Int)}, a.Perm b → a.Pairwise (· ≤ ·) → b.Pairwise (· ≤ ·) → a = b
  | [], b, p, _, _ => (List.nil_perm.mp p).symm
  | x :: a, b, p, ha, hb => by
    cases b with
    | nil => exact absurd p.length_eq (by simp)
    | cons y b =>
      obtain ⟨h1, h2⟩ := List.pairwise_cons.mp ha
      obtain ⟨h3, h4⟩ := List.pairwise_cons.mp hb
      have e : x = y := by
        have m1 : x ∈ y :: b := p.mem_iff.mp List.mem_cons_self
        have m2 : y ∈ x :: a := p.mem_iff.mpr List.mem_cons_self
        rcases List.mem_cons.mp m1 with e | m1
        · exact e
        rcases List.mem_cons.mp m2 with e | m2
        · exact e.symm
        exact List.le_antisymm (h1 y m2) (h3 x m1)
      subst e
      rw [sortL_uniq (List.Perm.cons_inv p) h2 h4]
abbrev encT (b : List Int) : PyData := .tuple (b.map .int)
theorem dataLe_T : dataLe false encT = fun p q => decide (p ≤ q) := by
  funext p q
  show (!dataLt (encT q) (encT p)) = _
  rw [dataLt_tuple]
  show (!rowLt (q.map .int) (p.map .int)) = _
  rw [dataLt_ints]
  by_cases h : q < p
  · have h' : ¬ p ≤ q := fun r => List.not_lt.mpr r h
    simp [h, h']
  · have h' : p ≤ q := List.not_lt.mp h
    simp [h, h']
theorem merge_sortL (bs : List (List Int)) : bs.mergeSort (dataLe false encT) = sortL bs := by
  rw [dataLe_T]
  refine sortL_uniq ((List.mergeSort_perm bs _).trans (sortL_perm bs).symm) ?_ (sortL_sorted bs)
  have := List.pairwise_mergeSort (le := fun p q : List Int => decide (p ≤ q)) (fun a b c h1 h2 => ?_) (fun a b => ?_) bs
  · exact this.imp fun h => of_decide_eq_true h
  · exact decide_eq_true (List.le_trans (of_decide_eq_true h1) (of_decide_eq_true h2))
  · rcases le_tot a b with h | h
    · rw [decide_eq_true h]; rfl
    · rw [decide_eq_true h]; simp
/-- a tuple of ints, as a value -/
def TupZ (P : Addr → List Int → Prop) (K : PySem.W.Frag) (H : Hp) (v : V) (b : List Int) : Prop := ∃ t, v = .ref t ∧ SqT K H t (b.map V.int) ∧ P t b
def TupU (P : Addr → List Int → Prop) (K : PySem.W.Frag) (H : Hp) (v : Value) (b : List Int) : Prop := ∃ t, v = .ref t ∧ SqT K H t (b.map V.int) ∧ P t b
section
variable {X : Cx} {pins : List (Addr × Obj)} {σ : L2.St} {H : Hp} {s : Shared} {P : Addr → List Int → Prop}
theorem readsAll_ints {h : Heap} : ∀ {vs : List Value} {b : List Int}, Vals (b.map V.int) vs → ReadsAll h vs (b.map .int) []
  | vs, [], r => by cases r; exact .nil
  | vs, i :: b, r => by
    cases r with
    | cons r1 r2 =>
      obtain ⟨t, rfl⟩ := r1
      exact ReadsAll.cons (as := []) (bs := []) (.int i t) (readsAll_ints r2)
theorem tupU_reads (I : Inv X pins σ H s) {h' : Heap} (k : ∀ b o, s.heap.get? b = some o → h'.get? b = some o) {v : Value} {b : List Int} (h : TupU P X.K H v b) : Reads h' v (encT b) [] := by
  obtain ⟨t, rfl, h, _⟩ := h
  obtain ⟨its, r, ⟨o, ho, hc, n, hd⟩, _⟩ := I.tuple h
  exact .tuple (k _ _ ho) hc hd (by simpa using readsAll_ints r)
theorem tup_alike (bs : List (List Int)) : AllAlike (bs.map encT) := AllAlike.of fun b b' => by
  show alike (.tuple _) (.tuple _) = true
  simp only [alike]
  exact alike_ints b b'
theorem tup_sortable {bs : List (List Int)} (h : ∀ b ∈ bs, b ≠ []) : Sortable (bs.map encT) := .inl fun d hd => by
  obtain ⟨b, hb, rfl⟩ := List.mem_map.mp hd
  cases b with
  | nil => exact absurd rfl (h _ hb)
  | cons x r => exact ⟨_, _, rfl⟩
theorem tup_depth (b : List Int) : (encT b).depth ≤ 1 := by
  show PyData.depth (.tuple _) ≤ 1
  simp only [PyData.depth, depth_ints]
  exact Nat.le_refl _
theorem each_of {R : Value → List Int → Prop} : ∀ {vs : List Value} {bs : List (List Int)}, vs.length = bs.length → (∀ (i : Nat) v b, vs[i]? = some v → bs[i]? = some b → R v b) → EachIs R vs bs
  | [], [], _, _ => .nil
  | v :: vs, b :: bs, h, k => .cons (k 0 v b rfl rfl) (each_of (by simpa using h) fun i v b h1 h2 => k (i + 1) v b (by simpa using h1) (by simpa using h2))
/-- the sorted values, as values of the layer -/
theorem each_vals {K : PySem.W.Frag} {H : Hp} {P : Addr → List Int → Prop} : ∀ {out : List Value} {bs : List (List Int)}, EachIs (TupU P K H) out bs → ∃ xs : List V, Vals xs out ∧ Paired (TupZ P K H) xs bs
  | _, _, .nil => ⟨[], .nil, .nil⟩
  | _, _, .cons ⟨t, e, h⟩ r => by
    obtain ⟨xs, h1, h2⟩ := each_vals r
    subst e
    exact ⟨.ref t :: xs, .cons rfl h1, .cons ⟨t, rfl, h⟩ h2⟩
/-- the sort of a new list of tuples of ints, and what the layer knows behind it -/
theorem sort_new {D : Addr} {A : Around} {vs : List Value} {bs : List (List Int)} {E : Value → Shared → Prop} {Q : Value → Shared → Prop} {n : Nat} (I : Inv X pins σ H s) {s1 : Shared} (hu : A.units + 2 < cLine)
    (k : ∀ b o, s.heap.get? b = some o → s1.heap.get? b = some o) (hD : s.heap.objs.size ≤ D) (hos : s1.os = s.os) (hg : s1.gens = s.gens) (ho : s1.heap.get? D = some (PyProof.Rows.seqObj "list" vs.toArray n)) (e : EachIs (TupU P X.K H) vs bs) (hne : ∀ b ∈ bs, b ≠ []) (hl : bs.length ≤ sizeLine)
    (h : ∀ xs s', Paired (TupZ P X.K H) xs (sortL bs) → Inv X pins σ (upd H D (.lst xs)) s' → Q .none s') : wpAny (model X.prog X.w) A (call (.builtin "list.sort") [.ref D]) Q E s1 := by
  refine list_sort_data (enc := encT) (bs := bs) ho e (e.mono fun v b hv => ⟨[], tupU_reads I k hv, List.not_mem_nil⟩) (tup_alike bs) (tup_sortable hne) hl (fun b _ => ?_) fun out hlen ho2 => ?_
  · have := tup_depth b
    omega
  · rw [merge_sortL] at ho2
    obtain ⟨xs, h1, h2⟩ := each_vals ho2
    obtain ⟨c, hc⟩ := PyProof.Rows.sortedHeap_at (vs := vs) (out := out.toArray) ho
    have hn : H D = none := I.hok.fresh hD
    have k2 : ∀ b o, s.heap.get? b = some o → (PyProof.Rows.sortedHeap s1.heap D vs out.toArray).get? b = some o := fun b o q => by
      have hb : b ≠ D := Nat.ne_of_lt (Nat.lt_of_lt_of_le (Heap.lt_size q) hD)
      exact (PyProof.Rows.sortedHeap_old hb (Heap.lt_size (k b o q))).trans (k b o q)
    have hz : xs.length ≤ sizeLine := by
      rw [h2.length, (sortL_perm bs).length_eq]; exact hl
    have J : Inv X pins σ (upd H D (.lst xs)) { s with heap := PyProof.Rows.sortedHeap s1.heap D vs out.toArray, gens := s.gens, drawn := s1.drawn, toks := s1.toks } :=
      I.call (ch := []) (Un.laid k2 hD hn) (I.hok.laid k2 hD ⟨hz, out, c, h1, hc⟩) I.bare (fun _ z => nomatch z)
    refine h xs _ h2 ?_
    have e2 : ({ s1 with heap := PyProof.Rows.sortedHeap s1.heap D vs out.toArray } : Shared) = { s with heap := PyProof.Rows.sortedHeap s1.heap D vs out.toArray, gens := s.gens, drawn := s1.drawn, toks := s1.toks } := by
      cases s1
      cases s
      cases hos
      cases hg
      rfl
    rw [e2]
    exact J
end
section
variable {X : Cx} {P : Addr → List Int → Prop}
/-- sorted(xs), xs a list of tuples of ints, none empty -/
def rSortedZ (K : PySem.W.Frag) : List V → Hp → VK → Prop := fun vs H Q => ∃ (P : Addr → List Int → Prop) (a : Addr) (ys : List V) (bs : List (List Int)), vs = [V.ref a] ∧ SqL K H a ys ∧ Paired (TupZ P K H) ys bs ∧ (∀ b ∈ bs, b ≠ []) ∧
  ∀ (xs : List V) (p : Addr), Paired (TupZ P K H) xs (sortL bs) → H p = none → Q (.ref p) (upd H p (.lst xs))
theorem pair_each {K : PySem.W.Frag} {H : Hp} {P : Addr → List Int → Prop} : ∀ {ys : List V} {us : List Value} {bs : List (List Int)}, Vals ys us → Paired (TupZ P K H) ys bs → EachIs (TupU P K H) us bs
  | _, _, _, .nil, .nil => .nil
  | _, _, _, .cons r rs, .cons ⟨t, e, h⟩ hs => by
    subst e
    cases r
    exact .cons ⟨t, rfl, h⟩ (pair_each rs hs)
theorem cr_sortedZ (hu1 : X.A.units + 64 < cLine) : CallR X (.builtin "sorted") (rSortedZ X.K) := by
  intro pins s σ H vs us Q I r h
  obtain ⟨P, a, ys, bs, rfl, hs, hp, hne, q⟩ := h
  obtain ⟨its, rv, hl, hz⟩ := I.list hs
  rw [Vals.ref1 r]
  have e := pair_each rv hp
  have hlen : bs.length ≤ sizeLine := by rw [← hp.length]; exact hz
  refine sorted_data (enc := encT) (bs := bs) hl.isList e (e.mono fun v b hv => ⟨[], tupU_reads I (fun _ _ q => q) hv⟩) (tup_alike bs) (tup_sortable hne) hlen (fun b _ => ?_) fun out _ ho => ?_
  · have := tup_depth b
    have := hu1
    omega
  · rw [merge_sortL] at ho
    obtain ⟨xs, h1, h2⟩ := each_vals ho
    obtain ⟨ep, he'⟩ := PyProof.Rows.sortedAll_at s.heap its out.toArray
    have hx : xs.length ≤ sizeLine := by
      rw [h2.length, (sortL_perm bs).length_eq]; exact hlen
    exact ⟨.ref _, upd H (s.heap.objs.size + 1) (.lst xs), I.laid (t' := s.toks) (fun _ _ => PyProof.Rows.sortedAll_old) (Nat.le_succ _) ⟨hx, out, ep, h1, he'⟩, rfl, q xs _ h2 (I.hok.fresh (Nat.le_succ _))⟩
/-- sorted(d), the keys of d tuples of ints, none empty -/
def rSortedTD (K : PySem.W.Frag) : List V → Hp → VK → Prop := fun vs H Q => ∃ (a : Addr) (kvs : List (List Key × V)) (bs : List (List Int)), vs = [V.ref a] ∧ H a = some (.dT kvs) ∧ kvs.map (·.1) = bs.map (fun b => b.map Sum.inl) ∧ (∀ b ∈ bs, b ≠ []) ∧
  ∀ (xs : List V) (p : Addr), Paired (TupZ (fun t b => H t = some (.tup (b.map V.int))) K H) xs (sortL bs) → H p = none → Q (.ref p) (upd H p (.lst xs))
theorem map_kV_inl (b : List Int) : (b.map (Sum.inl : Int → Key)).map kV = b.map V.int := by
  rw [List.map_map]; rfl
theorem keys_each {K : PySem.W.Frag} {H : Hp} {f : Addr → Value → V → Prop} : ∀ {kvs : List (List Key × V)} {ks : List (List Key × Addr × Value)} {bs : List (List Int)}, Paired (fun (p : List Key × V) (q : List Key × Addr × Value) => p.1 = q.1 ∧ H q.2.1 = some (.tup (p.1.map kV)) ∧ RelV p.2 q.2.2) kvs ks →
    kvs.map (·.1) = bs.map (fun b => b.map Sum.inl) → EachIs (TupU (fun t b => H t = some (.tup (b.map V.int))) K H) (ks.map fun x => Value.ref x.2.1) bs
  | [], _, [], .nil, _ => .nil
  | [], _, _ :: _, .nil, e => by simp at e
  | _ :: _, _, [], .cons _ _, e => by simp at e
  | p :: kvs, _, b :: bs, .cons ⟨e1, e2, _⟩ r, e => by
    rw [List.map_cons, List.map_cons] at e
    injection e with e3 e4
    rw [e3, map_kV_inl] at e2
    exact .cons ⟨_, rfl, SqT.of e2, e2⟩ (keys_each (f := f) r e4)
theorem cr_sortedTD (hc : X.calm = true) (hu : X.A.units + 64 < cLine) : CallR X (.builtin "sorted") (rSortedTD X.K) := by
  intro pins s σ H vs us Q I r h
  obtain ⟨a, kvs, bs, rfl, hd, hk, hne, q⟩ := h
  rw [Vals.ref1 r]
  obtain ⟨z, hs, ks, pr, o, es, ep, ho, hx, hdt, he, hn⟩ := (show ObjOk X.prog X.w H s.heap a (.dT kvs) from I.hok a _ hd)
  have l2 : kvs.length = ks.length := Paired.length pr
  have l1 : es.size = ks.length := size_of_entries he
  have l3 : bs.length = kvs.length := by
    have := congrArg List.length hk
    rw [List.length_map, List.length_map] at this
    exact this.symm
  refine Calls.call_function_entry PyProof.Rows.kind_sorted PyProof.Rows.plain_sorted PyProof.Rows.entry_sorted (PyProof.Rows.args_sorted1 _) ?_
  unfold Builtin.«sorted»
  refine wpAny_bind (m := checkCount "sorted" 1 1 _) (wpAny_pure ?_)
  refine wpAny_bind (PySem.W.kdu_collect (A := X.A.in1) (kdl_raw hs hx hdt) (I.ok.hd hc) ho (by omega) fun h' tk acc kp it => ?_)
  have ea : acc.toList = ks.map fun x => Value.ref x.2.1 := by
    refine List.ext_getElem? fun j => ?_
    have hl : acc.toList.length = ks.length := by rw [Array.length_toList, it.1]; exact l1
    cases hj : acc.toList[j]? with
    | none =>
      have h1 := List.getElem?_eq_none_iff.mp hj
      rw [List.getElem?_eq_none (by rw [List.length_map]; omega)]
    | some v =>
      obtain ⟨en, hen, hv⟩ := it.2 j v (by rw [← Array.getElem?_toList]; exact hj)
      have qe := entry_at he j
      rw [hen] at qe
      cases hb : ks[j]? with
      | none => rw [hb] at qe; cases qe
      | some x =>
        rw [hb] at qe
        have qe := Option.some.inj qe
        rw [List.getElem?_map, hb, hv, qe]
        rfl
  have hl : acc.toList.length ≤ sizeLine := by rw [ea, List.length_map]; omega
  refine wpAny_bind (wpAny_newList ?_ hl)
  have e := keys_each (K := X.K) (f := fun _ _ _ => True) pr hk
  rw [← ea] at e
  have I2 : Inv X pins σ H { s with heap := h', toks := tk } := I.kept (t' := tk) kp
  refine wpAny_bind (wpAny_holding (sort_new (D := h'.objs.size) (n := 0) (P := fun t b => H t = some (.tup (b.map V.int))) I2 (bs := bs) (vs := acc.toList) ?_ (fun b o q => Heap.get?_push_of_some _ q) (Nat.le_refl _) rfl rfl (Heap.get?_push_size _ rfl) e hne (by omega) fun xs s' h1 J => ?_))
  · show X.A.units + 1 + 2 < cLine
    omega
  · exact wpAny_pure ⟨_, rfl, .ref _, _, J, rfl, q xs _ h1 (I2.hok.fresh (Nat.le_refl _))⟩
end
end DL

/-! hand rules: tuples whose object is known, index -/
namespace DL
open PySem PySem.Spec L2

section
variable {X : Cx}
/-- tuple(xs), the new tuple's object known -/
theorem call_tupleF : CallR X (.type "tuple") (fun xs H Q => ∃ p ys, xs = [.ref p] ∧ SqL X.K H p ys ∧ ∀ l o, H l = none → o.cls = .type "tuple" → o.dict = none → Q (.ref l) (upd H l (.frz o (.tup ys)))) := by
  intro pins s σ H xs us Q I r h
  obtain ⟨p, ys, rfl, hq, q⟩ := h
  obtain ⟨u, rfl, rx⟩ := vals1 r
  cases rx
  obtain ⟨its, rv, pl, hz⟩ := I.list hq
  have hl := rv.length
  refine PySem.call_tuple_list pl.isList (fun h' kp => ?_) (by simp only [List.size_toArray]; omega)
  have J : Inv X pins σ H { s with heap := h' } := I.kept (t' := s.toks) kp
  have hg : (h'.push { cls := .type "tuple", data := .seq its.toArray }).get? h'.objs.size = some { cls := .type "tuple", data := .seq its.toArray } := Heap.get?_push_size _ rfl
  refine ⟨.ref h'.objs.size, _, J.laid (t' := s.toks) (fun b o e => Heap.get?_push_of_some _ e) (Nat.le_refl _) (o := .frz { cls := .type "tuple", data := .seq its.toArray } (.tup ys)) (show ObjOk X.prog X.w _ _ _ (.frz _ (.tup ys)) from ⟨hg, hz, its, rv, ⟨_, hg, rfl, _, rfl⟩⟩), rfl, q _ _ (J.hok.fresh (Nat.le_refl _)) rfl rfl⟩
/-- a method of a locked object of a built-in type -/
def tBMF (T : String) (r : V → List V → Hp → VK → Prop) (to : TE) (t : TA) : TE := fun σ H Q => to σ H fun x H1 => (∃ a ob u, x = .ref a ∧ H1 a = some (.frz ob u) ∧ ob.cls = .type T ∧ ob.dict = none) ∧ t σ H1 fun xs H2 => r x xs H2 Q
theorem pe_bmF {o e : Expr} {es : List Expr} {to : TE} {t : TA} {name : Str} {apos cpos : Pos} {T id : String} {r : V → List V → Hp → VK → Prop} (h1 : PlainAttrs T) (h2 : Slot T name id) (h3 : typeOf (.builtin id) = pure (.type "method_descriptor")) (hm : MtR X id r) (ho : PE X o to) (ha : PA X (e :: es) t)
    (hbase : attributeBase o name X.env (eval o X.env) = eval o X.env := by rfl)
    (hfew : ((backTo cpos (starEach (e :: es) X.env)).all (fun x => !x.1) && (backToKw cpos (keywordEach [] X.env)).all (fun x => x.1.isSome) && decide ((e :: es).length + ([] : List Keyword).length + (if ([] : List Keyword).isEmpty then 0 else 1) < 30)) = true := by rfl)
    (hline : (apos.endLine == cpos.line) = true := by rfl) (hs : starEach (e :: es) X.env = (false, eval e X.env) :: starEach es X.env := by rfl) (hpl : (backTo cpos (starEach es X.env)).any (·.1) = false := by rfl) :
    PE X (.Call (.Attribute o name apos) (e :: es) [] cpos) (tBMF T r to t) := by
  refine ⟨fun pins s σ H Q I h => ?_⟩
  refine wpAny_Call_method_late hbase hfew hline rfl (thn (ho.run pins s σ H _ I h) fun v s1 ⟨x, H1, I1, r1, ⟨a, ob, u, e1, e2, e3, e4⟩, h2'⟩ => ?_)
  subst e1
  cases r1
  have hg : s1.heap.get? a = some ob := (show ObjOk X.prog X.w H1 s1.heap a (.frz ob u) from I1.hok a _ e2).1
  refine ⟨T, id, h1, h2, h3, ⟨ob, hg, e3⟩, fun b hb => by cases hb; exact ⟨ob, hg, e4⟩, ?_⟩
  refine PyProof.Rows.callWith_method1 (thn (ha.run cpos pins s1 σ H1 _ I1 h2') fun us s2 ⟨vs, H2, I2, r2, q⟩ => ?_) hs hpl
  exact hm pins s2 σ H2 (.ref a) vs (.ref a) us Q I2 rfl r2 q
/-- t.index(i), t a tuple of ints, i there -/
def rTIdx (K : PySem.W.Frag) : V → List V → Hp → VK → Prop := fun x xs H Q => ∃ (a : Addr) (ns : List Int) (i : Int), x = .ref a ∧ xs = [.int i] ∧ SqT K H a (ns.map V.int) ∧ i ∈ ns ∧ Q (.int (ns.idxOf i : Nat)) H
theorem vals_ints : ∀ {ns : List Int} {vs : List Value}, Vals (ns.map V.int) vs → PyProof.Rows.IntsAre vs ns
  | [], _, r => by cases r; exact .nil
  | n :: ns, _, r => by
    cases r with
    | cons r1 r2 =>
      obtain ⟨t, rfl⟩ := r1
      exact .cons n t (vals_ints r2)
theorem mt_tidx : MtR X "tuple.index" (rTIdx X.K) := by
  intro pins s σ H x xs v us Q I r rs h
  obtain ⟨a, ns, i, rfl, rfl, hq, hi, q⟩ := h
  cases r
  obtain ⟨u, rfl, rx⟩ := vals1 rs
  obtain ⟨t, rfl⟩ := rx
  obtain ⟨its, rv, pt, hz⟩ := I.tuple hq
  refine PySem.SeqAt.tuple_index_ints (ns := ns) pt (vals_ints rv) hi ?_
  exact ⟨.int _, H, I.kept (t' := s.toks + 1) (fun _ _ e => e), ⟨_, rfl⟩, q⟩
end
end DL

/-! hand rules: dicts whose keys are tuples: comprehensions, displays -/
namespace DL
open PySem PySem.Spec L2

section
variable {X : Cx} {pins : List (Addr × Obj)} {σ : L2.St} {H : Hp} {s : Shared}
/-- what the layer knows of a dict whose keys are tuples, laid anew -/
theorem dT_new {P : Program} {w : World} {H' : Hp} {h' : Heap} {a : Addr} {kvs : List (List Key × V)} {xs : List (List Key × Addr × Value)} (hl : kvs.length ≤ sizeLine) (ha : (a == sysModules) = false) (hk : KT H' kvs xs) (hd : Heap.DictOfH (tupleKind (mixKind P w)) h' a xs) : ObjOk P w H' h' a (.dT kvs) := by
  obtain ⟨o, es, ep, h1, h2, h3, h4, _, h6⟩ := hd
  exact ⟨hl, ha, xs, hk, o, es, ep, h1, h2, h3, h4, h6⟩
theorem d_dictSetT {E : Value → Shared → Prop} {D b : Addr} {kvs : List (List Key × V)} {k : List Key} {v : V} {r : Value} {Q : Unit → Shared → Prop} (hu : X.A.units + 1 < cLine) (I : Inv X pins σ H s) (hD : H D = some (.dT kvs)) (hl : kvs.length < sizeLine) (hb : H b = some (.tup (k.map kV))) (rv : RelV v r)
    (h : ∀ s', Inv X pins σ (upd H D (.dT (putK kvs k v))) s' → Q () s') : wpAny (model X.prog X.w) X.A (dictSet D (.ref b) r) Q E s := by
  obtain ⟨h1, h2, xs, hk, hd⟩ := dt_of I.hok hD
  have hx : xs.length = kvs.length := hk.length.symm
  refine wpAny_dictSet_heap (knd := tupleKind (mixKind X.prog X.w)) ?_ (key_of I.hok hb) hd (fun h' hd' sb => ?_) (by omega)
  · show X.A.units < cLine
    omega
  · have hne : b ≠ D := fun z => by subst z; rw [hb] at hD; cases hD
    have J : Inv X pins σ (upd H D (.dT (putK kvs k v))) { heap := h', gens := s.gens, drawn := s.drawn, toks := s.toks + (tupleKind (mixKind X.prog X.w)).draws k, os := s.os } := by
      refine d_write I (by rw [hD]; trivial) sb ?_ ?_
      · obtain ⟨o, _, _, q, _⟩ := hd'
        exact ⟨o, q⟩
      · refine dT_new ?_ h2 ?_ hd'
        · have := length_putK kvs k v; omega
        · exact KT.keeps (hk.put k hb rv) fun b ys q => by
            rw [upd_ne (fun z => by subst z; rw [hD] at q; cases q)]; exact q
    exact h _ J
end
section
variable {X : Cx}
theorem inv_wipe {pins : List (Addr × Obj)} {σ : L2.St} {H : Hp} {s : Shared} (I : Inv X pins σ H s) (vs : List Nat) : Inv X pins (L2.wipe σ vs) H s :=
  { I with
    loc := by
      obtain ⟨m, h1, h2⟩ := I.loc
      exact ⟨m, h1, fun i x v e1 e2 e3 => h2 i x v e1 (wipe_some e2).1 e3⟩
    len := by rw [wipe_length]; exact I.len }
theorem wipe_wipe (σ : L2.St) (vs : List Nat) : L2.wipe (L2.wipe σ vs) vs = L2.wipe σ vs := by
  refine List.ext_getElem? fun i => ?_
  by_cases h : i ∈ vs
  · have key : ∀ τ : L2.St, (L2.wipe τ vs)[i]? = if i < τ.length then some none else none := fun τ => by
      cases q : (L2.wipe τ vs)[i]? with
      | none =>
        have := List.getElem?_eq_none_iff.mp q
        rw [wipe_length] at this
        rw [if_neg (by omega)]
      | some o =>
        have := (List.getElem?_eq_some_iff.mp q).1
        rw [wipe_length] at this
        rw [if_pos this]
        cases o with
        | none => rfl
        | some v => exact absurd h (wipe_some q).2
    rw [key, key, wipe_length]
  · rw [wipe_out h]
/-- {k: v for x in xs if t}, the keys tuples -/
def tDcT (wi : TI) (g : TG) (tt : TT) (tk tv : TE) (vs : List Nat) : TE := fun σ H Q => wi σ H fun J H1 => ∀ D, H1 D = none → ∃ W : Nat → Nat → Hp → Prop, (∃ m, W 0 m (upd H1 D (.dT []))) ∧
  ∀ i m H, W i m H → (J.stop i H ∧ Q (.ref D) H) ∨ (J.go i H ∧ ∃ Nx : Hp → Prop, (∀ H', Nx H' → ∃ m', m' < m ∧ W (i + 1) m' H') ∧
    ∀ x H', J.yld i H x H' → g x (L2.wipe σ vs) H' fun σ2 H2 => L2.wipe σ2 vs = L2.wipe σ vs ∧ tt σ2 H2 fun b H3 => if b = true then tk σ2 H3 fun y H4 => tv σ2 H4 fun z H5 =>
      ∃ (kvs : List (List Key × V)) (k : List Key) (t : Addr), y = .ref t ∧ H5 t = some (.tup (k.map kV)) ∧ H5 D = some (.dT kvs) ∧ kvs.length < sizeLine ∧ Nx (upd H5 D (.dT (putK kvs k z))) else Nx H3)
theorem pe_dcT {kx vx tg iter : Expr} {ifs : List Expr} {scope : Scope} {own : List (Str × Nat)} {pos : Pos} {wi : TI} {g : TG} {tt : TT} {tk tv : TE} (hc : X.calm = true) (hN : X.N.Nodup) (hu : X.A.units + 1 < cLine) (hi : PI X tg iter wi) (ok : BlkOk X.N X.env.scope scope own)
    (hg : ∀ (s : Shared) (H : Hp) (C : Addr) (cl : List (Str × Addr)) (fp : List Addr), PG (X.blk s H scope (compEnvC scope cl C X.env) fp) tg g)
    (ht : ∀ (s : Shared) (H : Hp) (C : Addr) (cl : List (Str × Addr)) (fp : List Addr), PTs (X.blk s H scope (compEnvC scope cl C X.env) fp) ifs tt)
    (hk : ∀ (s : Shared) (H : Hp) (C : Addr) (cl : List (Str × Addr)) (fp : List Addr), PE (X.blk s H scope (compEnvC scope cl C X.env) fp) kx tk)
    (he : ∀ (s : Shared) (H : Hp) (C : Addr) (cl : List (Str × Addr)) (fp : List Addr), PE (X.blk s H scope (compEnvC scope cl C X.env) fp) vx tv)
    (hf : ∀ x : Value, foldedSetIterable iter X.env x = pure x := by intro x; rfl) : PE X (.DictComp kx vx [⟨tg, iter, ifs, 0⟩] scope pos) (tDcT wi g tt tk tv (own.map (·.2))) := by
  refine ⟨fun pins s σ H Q I h => ?_⟩
  unfold eval
  refine wpAny_comprehension_free (g := ⟨tg, iter, ifs, 0⟩) (gs := []) (cl := cloFrom X.env.cells scope.names []) rfl hf (closure_ok fun y hy hk => I.ok.has y.1 (ok.free y hy hk)) ok.kind (fun y hy hl => by rw [ok.uniq y hy, hl]) ?_
  refine thn (hi.run pins s σ H _ I h) fun v s1 hv => thn hv fun itv s2 ⟨it, fp, tn, J, H1, e1, I2, T, t0, fo, r⟩ => ?_
  subst e1
  unfold newDict
  refine PySem.wpAny_newObj_type ?_ (by show 0 ≤ _; exact Nat.zero_le _)
  obtain ⟨W, ⟨m0, w0⟩, step⟩ := r s2.heap.objs.size (I2.hok.fresh (Nat.le_refl _))
  have I3 : Inv X pins σ (upd H1 s2.heap.objs.size (.dT [])) { heap := s2.heap.push { cls := .type "dict", dict := none, data := .dict #[] }, gens := s2.gens, drawn := s2.drawn, toks := s2.toks, os := s2.os } :=
    I2.laid (t' := s2.toks) (fun b o e => Heap.get?_push_of_some _ e) (Nat.le_refl _) (dt_empty _ I2.big)
  generalize hD : s2.heap.objs.size = D at *
  generalize hs3 : ({ heap := s2.heap.push { cls := .type "dict", dict := none, data := .dict #[] }, gens := s2.gens, drawn := s2.drawn, toks := s2.toks, os := s2.os } : Shared) = s3 at *
  have hk3 : ∀ b o, s2.heap.get? b = some o → s3.heap.get? b = some o := fun b o e => by subst hs3; exact Heap.get?_push_of_some _ e
  have lt2 : ∀ b ∈ fp, b < D := fun b hb => by
    obtain ⟨o, e, _⟩ := T.obj 0 _ t0 b hb
    rw [← hD]; exact Heap.lt_size e
  have fp3 : ∀ b ∈ fp, FpOk X pins (upd H1 D (.dT [])) b ∧ b < s3.heap.objs.size := fun b hb => by
    obtain ⟨h1, h2⟩ := fo b hb
    refine ⟨⟨by rw [upd_ne (Nat.ne_of_lt (lt2 b hb))]; exact h1, h2⟩, ?_⟩
    obtain ⟨o, e, _⟩ := T.obj 0 _ t0 b hb
    exact Heap.lt_size (hk3 b o e)
  refine newEnv_comp ?_
  have IB := block_start (own := own) I3 ok hN fp3
  generalize hcl : cellsFrom (s3.heap.objs.size + 1) scope.names (cloFrom X.env.cells scope.names []) = cl at *
  have tn3 : tn 0 (pushCells (s3.heap.push { cls := .type "dict", data := .dict #[] }) scope.names) :=
    T.keep 0 _ _ t0 fun b hb o e => pushCells_keeps _ _ _ _ (Heap.get?_push_of_some _ (hk3 b o e))
  have f3 : ∀ b ∈ fp, (upd H1 D (.dT [])) b = none := fun b hb => (fp3 b hb).1.1
  have hsz : s3.heap.objs.size ≤ s3.heap.objs.size := Nat.le_refl _
  have loop : codeAny (model X.prog X.w) X.A (Code.compLoop (.DictComp kx vx [⟨tg, iter, ifs, 0⟩] scope pos) 0 (.ref it) (.ref D) (compEnvC scope cl s3.heap.objs.size X.env))
      (compPost (model X.prog X.w) X.A X.xe none (EP X pins σ Q) (.ref D) s3.heap.objs.size)
      { heap := pushCells (s3.heap.push { cls := .type "dict", data := .dict #[] }) scope.names, gens := s3.gens, drawn := s3.drawn, toks := s3.toks, os := s3.os } := by
    refine compLoop_anyD (I := fun n s => ∃ i H' σ', Inv (X.blk s3 (upd H1 D (.dT [])) scope (compEnvC scope cl s3.heap.objs.size X.env) fp) [] σ' H' s ∧ L2.wipe σ' (own.map (·.2)) = L2.wipe σ (own.map (·.2)) ∧ W i n H' ∧ tn i s.heap ∧ ∀ b ∈ fp, H' b = none)
      (fun n s4 hI => ?_) m0 ⟨0, _, _, IB, wipe_wipe _ _, w0, tn3, f3⟩
    obtain ⟨i, H4, σ4, I4, ew, wn, t4, f4⟩ := hI
    have fpB : ∀ {s5 : Shared} {H5 : Hp} {σ5 : L2.St}, Inv (X.blk s3 (upd H1 D (.dT [])) scope (compEnvC scope cl s3.heap.objs.size X.env) fp) [] σ5 H5 s5 → (∀ b ∈ fp, H5 b = none) → ∀ b ∈ fp, FpOk (X.blk s3 (upd H1 D (.dT [])) scope (compEnvC scope cl s3.heap.objs.size X.env) fp) [] H5 b := fun {s5 H5 σ5} I5 f5 b hb =>
      ⟨f5 b hb, (I5.ok.exf b hb).1, I5.ok.exfs b hb, .inl hb, (I5.ok.exf b hb).2, fun p hp => by simp at hp⟩
    rcases step i n H4 wn with ⟨hs, q⟩ | ⟨hgo, Nx, nx, turn⟩
    · refine thn (T.done (X.blk s3 (upd H1 D (.dT [])) scope (compEnvC scope cl s3.heap.objs.size X.env) fp) rfl rfl rfl hc i [] s4 σ4 H4 _ I4 (fpB I4 f4) t4 hs) fun r5 s5 ⟨e5, I5⟩ => ?_
      subst e5
      show compPost _ _ _ _ _ _ _ _ _
      obtain ⟨m, hm, _⟩ := I5.loc
      refine ⟨m, hm, fun h' sb => ?_⟩
      have J3 : Inv X pins σ H4 s5 := by
        refine I3.call' (ch := fp) I5.os I5.base I5.hok I5.bare fun b hb => ?_
        obtain ⟨_, h2, _, h4, h5, h6⟩ := (fp3 b hb).1
        exact ⟨h4, h2, h5, h6⟩
      have lc : X.env.locals < s3.heap.objs.size := I3.lt
      refine ⟨.ref D, H4, J3.turned (it := s3.heap.objs.size) (fun b o hb e => by rw [sb.2 b hb]; exact e) I5.free (Nat.ne_of_gt lc) (.inr I3.sz) (fun x c hx => ?_) (fun p hp => ?_), rfl, q⟩
      · obtain ⟨v, ⟨o, e, _⟩⟩ := I3.cell x c hx
        exact Nat.ne_of_lt (Heap.lt_size e)
      · exact Nat.ne_of_lt (Heap.lt_size (I3.pin p hp).1)
    · refine thn (T.item (X.blk s3 (upd H1 D (.dT [])) scope (compEnvC scope cl s3.heap.objs.size X.env) fp) rfl rfl rfl hc i [] s4 σ4 H4 _ I4 (fpB I4 f4) t4 hgo) fun r5 s5 ⟨u, e5, h5⟩ => ?_
      subst e5
      refine thn h5 fun _ s6 ⟨x, H6, I6, rx, y6, t6, f6⟩ => ?_
      have P6 := ((inv_wipe I6 (own.map (·.2))).pinned (fpB I6 f6) fun b hb => T.obj _ _ t6 b hb)
      have tr := turn x H6 y6
      rw [ew] at P6
      refine thnF ((hg s3 (upd H1 D (.dT [])) s3.heap.objs.size cl fp).run _ s6 _ H6 x u _ P6 rx tr) fun _ s7 ⟨σ7, H7, I7, ew7, q7⟩ => ?_
      refine thnF ((ht s3 (upd H1 D (.dT [])) s3.heap.objs.size cl fp).run _ s7 σ7 H7 _ I7 q7) fun b s8 ⟨H8, I8, q8⟩ => ?_
      have back : ∀ {s9 : Shared} {H9 : Hp}, Inv (X.blk s3 (upd H1 D (.dT [])) scope (compEnvC scope cl s3.heap.objs.size X.env) fp) ([] ++ pinsAt fp s6.heap) σ7 H9 s9 → Nx H9 → ∃ m, m < n ∧ ∃ i H' σ', Inv (X.blk s3 (upd H1 D (.dT [])) scope (compEnvC scope cl s3.heap.objs.size X.env) fp) [] σ' H' s9 ∧ L2.wipe σ' (own.map (·.2)) = L2.wipe σ (own.map (·.2)) ∧ W i m H' ∧ tn i s9.heap ∧ ∀ b ∈ fp, H' b = none := fun {s9 H9} I9 hn => by
        obtain ⟨m', hm, w'⟩ := nx _ hn
        have get : ∀ b ∈ fp, ∀ o, s6.heap.get? b = some o → s9.heap.get? b = some o ∧ H9 b = none := fun b hb o e => by
          have := I9.pin (b, o) (show (b, o) ∈ [] ++ ([] ++ pinsAt fp s6.heap) from mem_pinsAt hb e)
          exact ⟨this.1, this.2.1⟩
        refine ⟨m', hm, i + 1, H9, σ7, I9.unpinned, ew7, w', T.keep _ _ _ t6 fun b hb o e => (get b hb o e).1, fun b hb => ?_⟩
        obtain ⟨o, e, _⟩ := T.obj _ _ t6 b hb
        exact (get b hb o e).2
      cases b with
      | false => exact back I8 q8
      | true =>
        refine thnF ((hk s3 (upd H1 D (.dT [])) s3.heap.objs.size cl fp).run _ s8 σ7 H8 _ I8 q8) fun kv s9 ⟨y, H9, I9, ry, q9⟩ => ?_
        refine thnF ((he s3 (upd H1 D (.dT [])) s3.heap.objs.size cl fp).run _ s9 σ7 H9 _ I9 q9) fun vv s10 ⟨z, H10, I10, rz, kvs, k, t, e1, e2, e3, e4, q10⟩ => ?_
        subst e1
        cases ry
        exact d_dictSetT (X := X.blk s3 (upd H1 D (.dT [])) scope (compEnvC scope cl s3.heap.objs.size X.env) fp) hu I10 e3 e4 e2 rz fun s' J => back J q10
  refine codeAny_compStart_dict ?_ ?_
  · exact loop
  · exact T.self _ 0 _ _ _ tn3 loop
end
end DL

/-! hand rules: enumerate over a tuple -/
namespace DL
open PySem PySem.Spec L2

theorem newB1 {v : Value} {o : Obj} {H : Heap → Prop} (hb : Begins v o H) : Meets (Builtin.«enumerate.__new__» { pos := [Value.type "enumerate", v] }) fun x R s =>
        H s.heap ∧
          R (Except.ok (Flow.ret (Value.ref (s.heap.push o).objs.size)))
            { heap := (s.heap.push o).push { cls := Value.type "enumerate", data := Data.fields #[Value.none, Value.bool false, Value.ref s.heap.objs.size, rawInt 0, Value.none, Value.none] },
              gens := s.gens, drawn := s.drawn, toks := s.toks, os := s.os } := by
  intro prog w A R s ⟨hH, hR⟩
  have key : wpAny (model prog w) A.in1 (do let it ← pyIter v; let r ← Builtin.SmallTypes.newRecord (.type "enumerate") (Builtin.SmallTypes.ownedTupleFields ++ [it, rawInt 0, .none, .none]); ret r) (fun fin s' => match fin with
          | Fin.done f => R (Except.ok f) s'
          | Fin.again c' => c'.quiet = true ∧ codeAny (model prog w) A c' R s')
        (fun e s' => R (Except.error e) s') s := by
    refine wpAny_bind (hb.iter _ _ _ _ _ _ hH ?_)
    refine wpAny_bind ?_
    show wpAny _ _ (newObj (.type "enumerate") (Data.fields (Builtin.SmallTypes.ownedTupleFields ++ [Value.ref s.heap.objs.size, rawInt 0, Value.none, Value.none]).toArray)) _ _ _
    refine PySem.wpAny_newObj_type ?_ (by show 6 ≤ _; decide)
    exact wpAny_pure hR
  unfold Builtin.«enumerate.__new__»
  refine wpAny_bind (wpAny_pure ?_)
  refine wpAny_bind (thn (Q := fun _ s' => s' = s) ?_ fun b s' e => ?_)
  · unfold Builtin.SmallTypes.calledThroughType
    exact wpAny_bind (PySem.wpAny_stack_any fun st => wpAny_pure rfl)
  · subst e
    cases b with
    | true => exact wpAny_bind (wpAny_pure (a := (v, none)) key)
    | false => exact wpAny_bind (wpAny_pure (a := (v, none)) key)
section
variable {P : Program} {w : World} {K : PySem.W.Frag}
theorem call_enum1 {A : Around} {E : Value → Shared → Prop} {s : Shared} {t : Addr} {items : Array Value} {Q : Value → Shared → Prop} (ht : s.heap.IsTuple t items)
    (h : ∀ h' : Heap, IsEnum h' (s.heap.objs.size + 1) s.heap.objs.size 0 .none → h'.IsTupleIter s.heap.objs.size t 0 → (∀ b o, s.heap.get? b = some o → h'.get? b = some o) → Q (.ref (s.heap.objs.size + 1)) { heap := h', gens := s.gens, drawn := s.drawn, toks := s.toks, os := s.os }) :
    wpAny (model P w) A (call (.type "enumerate") [.ref t]) Q E s := by
  refine callType_new PySem.F.called_enumerate (by decide) (PySem.F.typeCall_enumerate_1 _) (PySem.F.newCall_enumerate_1 _) (fun obj => ?_) PySem.F.entry_enumerate_new (newB1 (begins_tuple t items)) ⟨ht, ?_⟩
  · exact PySem.F.args_object_init_2 _ _
  · have e0 : ((s.heap.push { cls := .type "tuple_iterator", data := .fields #[.ref t, .int 0 0] }).push { cls := .type "enumerate", data := .fields #[.none, .bool false, .ref s.heap.objs.size, rawInt 0, .none, .none] }).get? (s.heap.objs.size + 1) = some { cls := .type "enumerate", data := .fields #[.none, .bool false, .ref s.heap.objs.size, rawInt 0, .none, .none] } := by
      rw [← Heap.size_push s.heap { cls := .type "tuple_iterator", data := .fields #[.ref t, .int 0 0] }]
      exact Heap.get?_push_size _ rfl
    have sz : (s.heap.push { cls := .type "tuple_iterator", data := .fields #[.ref t, .int 0 0] }).objs.size = s.heap.objs.size + 1 := Heap.size_push _ _
    show _ ∧ _
    rw [sz]
    refine ⟨⟨_, e0, rfl⟩, h _ e0 ⟨_, Heap.get?_push_of_some _ (Heap.get?_push_size _ rfl), rfl, rfl⟩ fun b o e => Heap.get?_push_of_some _ (Heap.get?_push_of_some _ e)⟩
/-- what enumerate walks, a tuple -/
def Iet (K : PySem.W.Frag) (a : Addr) : It where
  go := fun i H => ∃ xs x, SqT K H a xs ∧ xs[i]? = some x
  yld := fun i H v H' => ∃ T x, v = .ref T ∧ H T = none ∧ H' = upd H T (.tup [.int (i : Nat), x]) ∧ ∀ xs : List V, SqT K H a xs → xs[i]? = some x
  stop := fun i H => ∃ xs : List V, SqT K H a xs ∧ xs.length = i
theorem vals_get : ∀ {xs : List V} {us : List Value} {i : Nat} {u : Value}, Vals xs us → us[i]? = some u → ∃ x, xs[i]? = some x ∧ RelV x u
  | _, _, _, _, .nil, e => by simp at e
  | _, _, 0, _, .cons r _, e => by simp at e; subst e; exact ⟨_, rfl, r⟩
  | _, _, i + 1, u, .cons _ t, e => by
    obtain ⟨v, h1, h2⟩ := vals_get (i := i) (u := u) t (by simpa using e)
    exact ⟨v, by simpa using h1, h2⟩
theorem sqt_uniq {X : Cx} {pins : List (Addr × Obj)} {σ : L2.St} {H : Hp} {s : Shared} (I : Inv X pins σ H s) {a : Addr} {xs ys : List V} (h1 : SqT X.K H a xs) (h2 : SqT X.K H a ys) : xs = ys := by
  obtain ⟨i1, r1, ⟨o1, e1, _, _, d1⟩, _⟩ := I.tuple h1
  obtain ⟨i2, r2, ⟨o2, e2, _, _, d2⟩, _⟩ := I.tuple h2
  rw [e1] at e2; cases e2
  rw [d1] at d2
  have : i1.toArray = i2.toArray := by injection d2
  have : i1 = i2 := by simpa using this
  subst this
  exact r1.inj r2
theorem turn_enumT {elts : List Expr} {kk : Nat} {tpos : Pos} (a e it : Addr) : Turn P w K (.Tuple elts kk tpos) (Iet K a) [e, it] e fun i h => (∃ old, IsEnum h e it (i : Nat) old) ∧ h.IsTupleIter it a i ∧ e ≠ it where
  mem := by simp
  obj := fun i h ⟨⟨old, h1⟩, ⟨o, h2, h3, h4⟩, h5⟩ b hb => by
    rcases List.mem_cons.mp hb with rfl | hb
    · exact ⟨_, h1, fun v z => by cases z⟩
    · rcases List.mem_cons.mp hb with rfl | hb
      · exact ⟨o, h2, fun v z => by rw [h4] at z; cases z⟩
      · cases hb
  keep := fun i h h' ⟨⟨old, h1⟩, ⟨o, h2, h3, h4⟩, h5⟩ k => ⟨⟨old, k e (by simp) _ h1⟩, ⟨o, k it (by simp) _ h2, h3, h4⟩, h5⟩
  item := fun X hP hw hK hc i pins s σ H E I fo tn hg => by
    subst hP hw hK
    obtain ⟨⟨old, h1⟩, h2, h5⟩ := tn
    obtain ⟨xs, x, hq, hx⟩ := hg
    obtain ⟨its, rv, pt, hz⟩ := I.tuple hq
    have hi : i < its.toArray.size := by
      have := (List.getElem?_eq_some_iff.mp hx).1
      rw [List.size_toArray, ← rv.length]; exact this
    have hne : a ≠ it := by
      rintro rfl
      obtain ⟨o1, e1, c1, _⟩ := h2
      obtain ⟨o2, e2, c2, _⟩ := pt
      rw [e1] at e2; cases e2
      rw [c1] at c2; exact absurd (Value.type.inj c2) (by decide)
    have hea : e ≠ a := by
      rintro rfl
      obtain ⟨o2, e2, c2, _⟩ := pt
      rw [h1] at e2; cases e2
      exact absurd (Value.type.inj c2) (by decide)
    refine wpAny_pyNext_enum_itemD (Draws.tuple (A := X.A.in1) (show X.A.in1.handled = none from I.ok.hd hc) it a hne its.toArray) h1 ⟨h2, pt⟩ hi h5 (by simp [h5, hea]) fun y h' tk hy ho st ht hs hk => ?_
    refine ⟨_, rfl, ?_⟩
    refine wpAny_letOwnedTupleGo_enum ho fun h'' he hb => ?_
    have lt : s.heap.objs.size < h'.objs.size := by omega
    have ne : s.heap.objs.size ≠ e := Nat.ne_of_gt (Heap.lt_size h1)
    have ni : s.heap.objs.size ≠ it := by
      obtain ⟨o, e2, _⟩ := h2
      exact Nat.ne_of_gt (Heap.lt_size e2)
    obtain ⟨x', hx', rx⟩ := vals_get (u := y) rv (by rw [← List.getElem?_toArray]; exact hy)
    have ht2 : h''.get? s.heap.objs.size = some { cls := .type "tuple", data := .seq #[.int (i : Nat) tk, y] } := by rw [hb.2 _ ne]; exact ht
    have J : Inv X pins σ (upd H s.heap.objs.size (.tup [.int (i : Nat), x'])) { heap := h'', gens := s.gens, drawn := s.drawn, toks := tk + 1, os := s.os } := by
      refine I.turnedNew (ch := [e, it]) (fun b o hn q => ?_) (fun b q => fo b q) (Nat.le_refl _) ?_
      · have hbe : b ≠ e := fun z => hn (by simp [z])
        have hbi : b ≠ it := fun z => hn (by simp [z])
        rw [hb.2 b hbe]; exact hk b o hbe hbi q
      · exact ⟨by show 2 ≤ sizeLine; decide, [.int (i : Nat) tk, y], .cons ⟨tk, rfl⟩ (.cons rx .nil), ⟨_, ht2, rfl, _, rfl⟩⟩
    have fr : H s.heap.objs.size = none := I.hok.fresh (Nat.le_refl _)
    refine ⟨.ref s.heap.objs.size, _, J, rfl, ⟨_, x', rfl, fr, rfl, fun ys hy' => ?_⟩, ⟨⟨_, he⟩, ?_, h5⟩, fun b q => ?_⟩
    · obtain rfl := sqt_uniq I hq hy'
      exact hx'
    · obtain ⟨o, e2, e3, e4⟩ := st.1
      exact ⟨o, by rw [hb.2 it (Ne.symm h5)]; exact e2, e3, e4⟩
    · rcases List.mem_cons.mp q with rfl | q
      · rw [upd_ne (Ne.symm ne)]; exact (fo _ (by simp)).1
      · rcases List.mem_cons.mp q with rfl | q
        · rw [upd_ne (Ne.symm ni)]; exact (fo _ (by simp)).1
        · cases q
  done := fun X hP hw hK hc i pins s σ H E I fo tn hs => by
    subst hP hw hK
    obtain ⟨⟨old, h1⟩, h2, h5⟩ := tn
    obtain ⟨xs, hq, hl⟩ := hs
    obtain ⟨its, rv, pt, hz⟩ := I.tuple hq
    have hne : a ≠ it := by
      rintro rfl
      obtain ⟨o1, e1, c1, _⟩ := h2
      obtain ⟨o2, e2, c2, _⟩ := pt
      rw [e1] at e2; cases e2
      rw [c1] at c2; exact absurd (Value.type.inj c2) (by decide)
    have hn : its.toArray.size = i := by rw [List.size_toArray, ← rv.length]; exact hl
    refine wpAny_pyNext_enum_endD (Draws.tuple (A := X.A.in1) (show X.A.in1.handled = none from I.ok.hd hc) it a hne its.toArray) h1 ⟨by rw [hn]; exact h2, pt⟩ fun h' xb => ⟨rfl, ?_⟩
    exact I.turnedL (t' := s.toks) (ch := [e, it]) (fun b o hnb q => xb b o (fun z => hnb (by simp [z])) q) fun b q => fo b q
  self := fun A i s Q E ⟨⟨old, h1⟩, _⟩ q => wpAny_pyIter_enum h1 q
def iEnumT (K : PySem.W.Frag) (ta : TA) : TI := fun σ H R => ta σ H fun vs H1 => ∃ a xs, vs = [.ref a] ∧ SqT K H1 a xs ∧ R (Iet K a) H1
theorem pi_enumT {X : Cx} {e : Expr} {ta : TA} {p pos tpos : Pos} {elts : List Expr} {kk : Nat} (hg : Gl X "enumerate") (hm : X.mg "enumerate" = none) (ha : PA X [e] ta) (hs : starEach [e] X.env = [(false, eval e X.env)] := by rfl) :
    PI X (.Tuple elts kk tpos) (.Call (.Name "enumerate" p) [e] [] pos) (iEnumT X.K ta) := by
  refine ⟨fun pins s σ H R I h => ?_⟩
  have hn : PE X (.Name "enumerate" p) (tC (.ty "enumerate")) := pe_bltn hg hm (by decide +kernel) rfl
  refine wpAny_Call_NameR (thn (hn.run pins s σ H (fun v H' => v = .ty "enumerate" ∧ H' = H) I ⟨rfl, rfl⟩) fun f s1 ⟨v, H0, I0, rv, e1, e2⟩ => ?_)
  subst e1 e2
  cases rv
  refine PyProof.Rows.callWith_type1 (thn (ha.run pos pins s1 σ H0 _ I0 h) fun us s2 ⟨vs, H1, I1, r1, a, xs, e3, hq, r⟩ => ?_) hs (by rfl)
  subst e3
  obtain ⟨u, rfl, ru⟩ := vals1 r1
  cases ru
  obtain ⟨its, rv, pt, hz⟩ := I1.tuple hq
  refine call_enum1 pt fun h' h1 h2 hk => ?_
  have I2 : Inv X pins σ H1 { heap := h', gens := s2.gens, drawn := s2.drawn, toks := s2.toks, os := s2.os } := I1.kept (t' := s2.toks) hk
  refine wpAny_pyIter_enum h1 ?_
  refine ⟨s2.heap.objs.size + 1, [s2.heap.objs.size + 1, s2.heap.objs.size], _, _, H1, rfl, I2, turn_enumT a (s2.heap.objs.size + 1) s2.heap.objs.size, ⟨⟨_, h1⟩, h2, Nat.ne_of_gt (Nat.lt_succ_self _)⟩, fun b hb => ?_, r⟩
  have ge : s2.heap.objs.size ≤ b := by
    rcases List.mem_cons.mp hb with rfl | hb
    · exact Nat.le_succ _
    · rcases List.mem_cons.mp hb with rfl | hb
      · exact Nat.le_refl _
      · cases hb
  refine ⟨I1.hok.fresh ge, ?_, I1.nofs ge, .inr (Nat.le_trans I1.sz ge), fun x c hx => ?_, fun p hp => ?_⟩
  · exact Nat.ne_of_gt (Nat.lt_of_lt_of_le I1.lt ge)
  · obtain ⟨v, ⟨o, e, _⟩⟩ := I1.cell x c hx
    exact Nat.ne_of_lt (Nat.lt_of_lt_of_le (Heap.lt_size e) ge)
  · exact Nat.ne_of_lt (Nat.lt_of_lt_of_le (Heap.lt_size (I1.pin p hp).1) ge)
end
end DL

/-! hand rules: a display whose key is a tuple; dict(pairs) -/
namespace DL
open PySem PySem.Spec L2

section
variable {X : Cx}
/-- {k: v}, the key a tuple -/
def tDispT (tk tv : TE) : TE := fun σ H Q => ∀ p, H p = none → tk σ (upd H p (.dT [])) fun x H1 => tv σ H1 fun y H2 => H2 p = some (.dT []) ∧ ∃ (ks : List Key) (t : Addr), x = .ref t ∧ H2 t = some (.tup (ks.map kV)) ∧ Q (.ref p) (upd H2 p (.dT [(ks, y)]))
theorem pe_dispT {pos : Pos} {k v : Expr} {tk tv : TE} (hu : X.A.units + 1 < cLine) (hk : PE X k tk) (hv : PE X v tv) : PE X (.Dict [some k] [v] pos) (tDispT tk tv) := by
  refine ⟨fun pins s σ H Q I h => ?_⟩
  unfold eval
  refine wpAny_bind (wpAny_standAt ?_)
  have e0 : (evalEachOpt [some k] X.env).zip (List.map (fun v => do let x ← v; standAt pos; pure x) (evalEach [v] X.env)) = (pairTrees [some k] [v] X.env pos).map (fun p => (some p.1, p.2)) := by rfl
  rw [e0]
  rw [dictDisplay_pairs _ (by intro z; cases z) (by show 1 < 17; decide)]
  refine wpAny_bind (wpAny_subDictH (knd := tupleKind (mixKind X.prog X.w)) (show X.A.units < cLine by omega) (by show 1 ≤ 15; decide) ?_)
  have I1 : Inv X pins σ (upd H s.heap.objs.size (.dT [])) { heap := s.heap.push { cls := .type "dict", data := .dict #[] }, gens := s.gens, drawn := s.drawn, toks := s.toks, os := s.os } :=
    I.laid (t' := s.toks) (fun b o e => Heap.get?_push_of_some _ e) (Nat.le_refl _) (dt_empty _ I.big)
  have hq := h s.heap.objs.size (I.hok.fresh (Nat.le_refl _))
  refine thn ((pps_cons hk hv pps_nil).run pins _ σ _ (fun ps H2 => match ps with | [(x, y)] => H2 s.heap.objs.size = some (.dT []) ∧ ∃ (ks : List Key) (t : Addr), x = .ref t ∧ H2 t = some (.tup (ks.map kV)) ∧ Q (.ref s.heap.objs.size) (upd H2 s.heap.objs.size (.dT [(ks, y)])) | _ => False) I1 hq) fun vs s' ⟨ps, H', I', vv, qq⟩ => ?_
  · split at qq
    case h_2 => exact qq.elim
    rename_i x y
    obtain ⟨e2, ks, t, e3, e4, q⟩ := qq
    subst e3
    cases vv with
    | @cons _ q1 _ _ hh r =>
      cases r
      obtain ⟨ku, vu⟩ := q1
      obtain ⟨r1, r2⟩ := hh
      cases r1
      obtain ⟨_, hs, xs0, hk0, hd0⟩ := dt_of I'.hok e2
      cases hk0
      refine ⟨[(ks, t, vu)], ⟨rfl, rfl, key_of I'.hok e4, trivial⟩, hd0, fun h' tk hd sb => wpAny_pure ?_⟩
      have ne : t ≠ s.heap.objs.size := fun z => by subst z; rw [e4] at e2; cases e2
      refine ⟨.ref s.heap.objs.size, _, d_write I' (by rw [e2]; trivial) sb ?_ ?_, rfl, q⟩
      · obtain ⟨o, _, _, g, _⟩ := hd; exact ⟨o, g⟩
      · refine dT_new (by show 1 ≤ sizeLine; decide) hs ?_ hd
        exact .cons ⟨rfl, by rw [upd_ne ne]; exact e4, r2⟩ .nil
end
end DL
namespace DL
open PySem PySem.Spec L2
section
variable {X : Cx}
def mergeT (kvs : List (List Key × V)) (more : List (List Key × Addr × V)) : List (List Key × V) := more.foldl (fun acc kv => putK acc kv.1 kv.2.2) kvs
theorem mergeT_len : ∀ (more : List (List Key × Addr × V)) (kvs : List (List Key × V)), (mergeT kvs more).length ≤ kvs.length + more.length
  | [], kvs => Nat.le_refl _
  | m :: more, kvs => by
    have := mergeT_len more (putK kvs m.1 m.2.2)
    have h2 := length_putK kvs m.1 m.2.2
    show (mergeT (putK kvs m.1 m.2.2) more).length ≤ _
    rw [List.length_cons]; omega
theorem merge_KT {H : Hp} : ∀ {more : List (List Key × Addr × V)} {prs : List (List Key × Addr × Value)} {kvs : List (List Key × V)} {xs : List (List Key × Addr × Value)}, KT H kvs xs → Paired (fun (kv : List Key × Addr × V) (q : List Key × Addr × Value) => kv.1 = q.1 ∧ kv.2.1 = q.2.1 ∧ RelV kv.2.2 q.2.2 ∧ H kv.2.1 = some (.tup (kv.1.map kV))) more prs → KT H (mergeT kvs more) (storedAllH xs prs)
  | _, _, _, _, k, .nil => k
  | _, _, kvs, xs, k, @Paired.cons _ _ _ m q more prs ⟨e1, e2, e3, e4⟩ r => by
    show KT H (mergeT (putK kvs m.1 m.2.2) more) (storedAllH (storedH xs q.1 q.2.1 q.2.2) prs)
    rw [← e1, ← e2]
    exact merge_KT (k.put m.1 e4 e3) r
theorem pairsT_of {pins : List (Addr × Obj)} {σ : L2.St} {H : Hp} {s : Shared} (I : Inv X pins σ H s) : ∀ {ps : List Addr} {kvs : List (List Key × Addr × V)}, Paired (fun p (kv : List Key × Addr × V) => SqT X.K H p [.ref kv.2.1, kv.2.2] ∧ H kv.2.1 = some (.tup (kv.1.map kV))) ps kvs →
    ∃ prs : List (List Key × Addr × Value), Paired (fun (kv : List Key × Addr × V) (q : List Key × Addr × Value) => kv.1 = q.1 ∧ kv.2.1 = q.2.1 ∧ RelV kv.2.2 q.2.2 ∧ H kv.2.1 = some (.tup (kv.1.map kV))) kvs prs ∧ Paired (fun p (q : List Key × Addr × Value) => PyProof.Rows.IsTup s.heap p #[.ref q.2.1, q.2.2]) ps prs
  | _, _, .nil => ⟨[], .nil, .nil⟩
  | _, _, .cons ⟨h1, h2⟩ r => by
    obtain ⟨prs, p1, p2⟩ := pairsT_of I r
    obtain ⟨its, rv, pt, _⟩ := I.tuple h1
    cases rv with
    | cons r1 r2 =>
      cases r1
      cases r2 with
      | cons r3 r4 =>
        cases r4
        exact ⟨(_, _, _) :: prs, .cons ⟨rfl, rfl, r3, h2⟩ p1, .cons pt p2⟩
end
end DL

/-! hand rules: dict(pairs), the keys tuples; len(set(t)) -/
namespace DL
open PySem PySem.Spec L2
section
variable {X : Cx}
theorem paired_at {α β : Type} {R : α → β → Prop} : ∀ {as : List α} {bs : List β} {i : Nat} {b : β}, Paired R as bs → bs[i]? = some b → ∃ a, as[i]? = some a ∧ R a b
  | _, _, _, _, .nil, e => by simp at e
  | _, _, 0, _, .cons r _, e => by simp at e; subst e; exact ⟨_, rfl, r⟩
  | _, _, i + 1, b, .cons _ t, e => by
    obtain ⟨v, h1, h2⟩ := paired_at (i := i) (b := b) t (by simpa using e)
    exact ⟨v, by simpa using h1, h2⟩
/-- dict(xs), xs a list of pairs whose first is a tuple -/
def rDictT (K : PySem.W.Frag) : List V → Hp → VK → Prop := fun xs H Q => ∃ (a : Addr) (ps : List Addr) (kvs : List (List Key × Addr × V)), xs = [.ref a] ∧ SqL K H a (ps.map V.ref) ∧ Paired (fun p (kv : List Key × Addr × V) => SqT K H p [.ref kv.2.1, kv.2.2] ∧ H kv.2.1 = some (.tup (kv.1.map kV))) ps kvs ∧
  ∀ p, H p = none → Q (.ref p) (upd H p (.dT (mergeT [] kvs)))
theorem call_dictT (hc : X.calm = true) (hu : X.A.units + 64 < cLine) : CallR X (.type "dict") (rDictT X.K) := by
  intro pins s σ H xs us Q I r h
  obtain ⟨a, ps, kvs, rfl, hs, hp, q⟩ := h
  obtain ⟨u, rfl, ru⟩ := vals1 r
  cases ru
  obtain ⟨its, rv, pl, hz⟩ := I.list hs
  obtain rfl := refs_at rv
  obtain ⟨prs, p1, p2⟩ := pairsT_of I hp
  have l1 : ps.length = kvs.length := hp.length
  have l2 : kvs.length = prs.length := p1.length
  rw [List.length_map] at hz
  have ok : PlainSeq "list" s.heap a (ps.map Value.ref).toArray ∧ PairItems s.heap (ps.map Value.ref).toArray (fun j => ps.getD j 0) (prs.map fun x => (Value.ref x.2.1, x.2.2)) := by
    refine ⟨?_, ?_, fun j k v hj => ?_⟩
    · obtain ⟨o, n, e1, e2, e3, e4⟩ := pl
      exact ⟨o, n, e1, e2, e3, e4⟩
    · simp only [List.size_toArray, List.length_map]; omega
    · rw [List.getElem?_map] at hj
      obtain ⟨x, hx, e⟩ := Option.map_eq_some_iff.mp hj
      cases e
      obtain ⟨p, hp1, hp2⟩ := paired_at p2 hx
      refine ⟨?_, .inl ?_⟩
      · rw [List.getElem?_toArray, List.getElem?_map, hp1]
        simp only [Option.map_some, List.getD, hp1, Option.getD_some]
      · simp only [List.getD, hp1, Option.getD_some]
        exact hp2
  refine call_dict_pairsH (knd := tupleKind (mixKind X.prog X.w)) (ps := prs) (PairArg.list a _ _ _) (I.ok.hd hc) (show X.A.in1.in1.units < cLine from ?_) ok ⟨by rw [List.length_map], fun i key v hj => ?_⟩ (fun h' hk x hx => ?_) (by rw [List.length_map]; omega) fun h' tk hd hk => ?_
  · show X.A.units + 1 + 1 < cLine
    omega
  · have hj : (prs.map fun x => (Value.ref x.2.1, x.2.2))[i]? = some (key, v) := hj
    rw [List.getElem?_map] at hj
    obtain ⟨x, hx, e⟩ := Option.map_eq_some_iff.mp hj
    cases e
    exact ⟨x.1, x.2.1, hx, rfl⟩
  · obtain ⟨i, hi⟩ := List.mem_iff_getElem?.mp hx
    obtain ⟨kv, _, e1, e2, _, e4⟩ := paired_at p1 hi
    have hok : HOk X.prog X.w H h' := I.hok.kept fun b u e => hk b u (Nat.ne_of_lt (Heap.lt_size e)) (by simp) e
    rw [← e1, ← e2]
    exact key_of hok e4
  · have J : Inv X pins σ (upd H s.heap.objs.size (.dT (mergeT [] kvs))) { heap := h', gens := s.gens, drawn := s.drawn, toks := tk, os := s.os } := by
      refine I.laid (t' := tk) (fun b o e => hk b o (by simp) e) (Nat.le_refl _) (dT_new ?_ ?_ ?_ hd)
      · have := mergeT_len kvs []
        simp only [List.length_nil] at this
        omega
      · have := I.big
        exact beq_false_of_ne (Nat.ne_of_gt this)
      · refine KT.keeps (merge_KT .nil p1) fun b ys e => ?_
        rw [upd_ne (Nat.ne_of_lt (I.hok.lt e))]; exact e
    exact ⟨.ref _, _, J, rfl, q _ (I.hok.fresh (Nat.le_refl _))⟩
end
end DL

/-! hand rules: len(set(t)), t a tuple of ints -/
namespace DL
open PySem PySem.Spec L2
section
variable {X : Cx}
/-- how many different ints -/
def diffI : List Int → List Int
  | [] => []
  | i :: is => if (diffI is).contains i then diffI is else i :: diffI is
theorem mem_diffI (j : Int) : ∀ is, j ∈ diffI is ↔ j ∈ is
  | [] => Iff.rfl
  | i :: is => by
    have ih := mem_diffI j is
    unfold diffI
    split
    · rename_i h
      have hi : i ∈ diffI is := by simpa using h
      rw [ih, List.mem_cons]
      constructor
      · exact .inr
      · rintro (rfl | h)
        · exact ((mem_diffI j is).mp hi)
        · exact h
    · rw [List.mem_cons, List.mem_cons, ih]
theorem nodup_diffI : ∀ is, (diffI is).Nodup
  | [] => List.nodup_nil
  | i :: is => by
    unfold diffI
    split
    · exact nodup_diffI is
    · rename_i h
      exact List.nodup_cons.mpr ⟨by simpa using h, nodup_diffI is⟩
theorem nodup_len {a b : List Int} (h1 : a.Nodup) (h2 : b.Nodup) (h : ∀ k, k ∈ a ↔ k ∈ b) : a.length = b.length :=
  ((List.perm_ext_iff_of_nodup h1 h2).mpr h).length_eq
def rSetT (K : PySem.W.Frag) : List V → Hp → VK → Prop := fun xs H Q => ∃ (l : Addr) (ns : List Int), xs = [.ref l] ∧ SqT K H l (ns.map V.int) ∧ ns.length + 1 < scanBound ∧ ∀ p, H p = none → Q (.ref p) (upd H p (.set (fun j => decide (j ∈ ns)) (diffI ns).length))
theorem call_setT (hc : X.calm = true) : CallR X (.type "set") (rSetT X.K) := by
  intro pins s σ H xs us Q I r h
  obtain ⟨l, ns, rfl, hq, hl, q⟩ := h
  obtain ⟨u, rfl, ru⟩ := vals1 r
  cases ru
  obtain ⟨its, rv, pt, hz⟩ := I.tuple hq
  refine call_set_tupI ns (I.ok.hd hc) pt (vals_ints rv) hl fun h' tk n hs _ hk => ?_
  have hn : n = (diffI ns).length := by
    obtain ⟨o, es, ep, t, _, _, _, _, nd, mem, _, _, sz, _⟩ := hs
    rw [← sz, ← Array.length_toList, ← List.length_map (f := keyOf)]
    refine nodup_len nd (nodup_diffI ns) fun k => ?_
    rw [← mem k, mem_diffI]; simp
  subst hn
  have J : Inv X pins σ (upd H s.heap.objs.size (.set (fun j => decide (j ∈ ns)) (diffI ns).length)) { heap := h', gens := s.gens, drawn := s.drawn, toks := tk, os := s.os } :=
    I.laid (t' := tk) hk (Nat.le_refl _) hs.setOf
  exact ⟨.ref _, _, J, rfl, q _ (I.hok.fresh (Nat.le_refl _))⟩
def rLenS : List V → Hp → VK → Prop := fun xs H Q => ∃ p S n, xs = [.ref p] ∧ H p = some (.set S n) ∧ Q (.int (n : Nat)) H
theorem call_lenS : CallR X (.builtin "len") rLenS := by
  intro pins s σ H xs us Q I r h
  obtain ⟨p, S, n, rfl, hp, q⟩ := h
  obtain ⟨u, rfl, ru⟩ := vals1 r
  cases ru
  obtain ⟨o, es, ep, t, h1, h2, h3, _, _, h6, h7, h8⟩ := (show Heap.SetOf (intKind X.prog X.w) s.heap p S n from I.hok p _ hp)
  refine call_len_set h1 h2 h3 h7 ?_ ?_
  · have : scanBound < 2 ^ 63 := by decide
    omega
  · rw [h8]
    exact ⟨.int _, H, I.kept (t' := s.toks + 1 + 1) (fun _ _ e => e), ⟨_, rfl⟩, q⟩
end
end DL

/-! hand rules: sets of tuples of ints, of unlike length -/
namespace DL
open PySem PySem.Spec L2
section
variable {X : Cx} {pins : List (Addr × Obj)} {σ : L2.St} {H : Hp} {s : Shared}
theorem d_setAddT {E Q : Value → Shared → Prop} {D t : Addr} {k : List Int} {L : List (Addr × List Int)} (hu : X.A.units + 2 < cLine) (I : Inv X pins σ H s) (hD : H D = some (SetTO X.prog X.w D L)) (hL : ∀ p ∈ L, SqT X.K H p.1 (p.2.map V.int)) (ht : SqT X.K H t (k.map V.int)) (hl : L.length + 1 < 64)
    (h : ∀ L' s', (k ∈ L.map (·.2) → L' = L) → (k ∉ L.map (·.2) → L'.Perm ((t, k) :: L)) → Inv X pins σ (upd H D (SetTO X.prog X.w D L')) s' → Q .none s') :
    wpAny (model X.prog X.w) X.A (call (.builtin "set.add") [.ref D, .ref t]) Q E s := by
  have ok : ObjOk X.prog X.w H s.heap D (SetTO X.prog X.w D L) := I.hok D _ hD
  obtain ⟨⟨es, ep, tb, ob, rows, tab, nd, plain, led, room, few⟩, _⟩ := ok
  have R : SetTR X.prog X.w s.heap D L es ep tb := ⟨ob, rows, tab, nd, fun p hp => I.isT (hL p hp), plain, led, room, few⟩
  have hT := I.isT ht
  have ty : s.TypeIs (.ref D) "set" := by
    obtain ⟨o, e, q, _⟩ := ob
    exact ⟨o, e, q.1⟩
  refine call_meetsIn (S := fun A R s0 => wpAny (model X.prog X.w) A.in1 (Builtin.«set.add» { pos := [Value.ref D, Value.ref t] }) (fun fin s' => match fin with
        | Fin.done f => R (Except.ok f) s'
        | Fin.again c' => c'.quiet = true ∧ codeAny (model X.prog X.w) A c' R s') (fun e s' => R (Except.error e) s') s0) PySem.F.slot_set_add ty PySem.F.entry_set_add (PySem.F.args_set_add_2 _ _) (fun A R s0 h0 => h0) ?_
  unfold Builtin.«set.add»
  refine wpAny_bind (wpAny_pure (a := (D, Value.ref t)) ?_)
  refine wpAny_bind ?_
  unfold setAdd
  refine wpAny_holding (wpAny_bind ((tupleKind (intKind X.prog X.w)).pyHash (k := k) (show X.A.in1.units < cLine by show X.A.units + 1 < cLine; omega) hT ?_))
  have R2 : SetTR X.prog X.w ({ heap := s.heap, gens := s.gens, drawn := s.drawn, toks := s.toks + (tupleKind (intKind X.prog X.w)).draws k, os := s.os } : Shared).heap D L es ep tb := R
  refine add_at R2 hT (show X.A.units + 1 < cLine by omega) hl fun b h' L' es' ep' t' sb R' z1 z2 => wpAny_pure ?_
  refine h L' _ z1 z2 ?_
  refine d_write (I.kept (t' := s.toks + (tupleKind (intKind X.prog X.w)).draws k) (fun _ _ e => e)) (by rw [hD]; trivial) sb ?_ (setTO_new R'.t0)
  obtain ⟨o, e, _⟩ := R'.ob
  exact ⟨o, e⟩
end
section
variable {X : Cx}
/-- {e for x in xs if t}, tuples of ints -/
def tScT (P : Program) (w : World) (K : PySem.W.Frag) (wi : TI) (g : TG) (tt : TT) (te : TE) (vs : List Nat) : TE := fun σ H Q => wi σ H fun J H1 => ∀ D, H1 D = none → ∃ W : Nat → Nat → Hp → Prop, (∃ m, W 0 m (upd H1 D (SetTO P w D []))) ∧
  ∀ i m H, W i m H → (J.stop i H ∧ Q (.ref D) H) ∨ (J.go i H ∧ ∃ Nx : Hp → Prop, (∀ H', Nx H' → ∃ m', m' < m ∧ W (i + 1) m' H') ∧
    ∀ x H', J.yld i H x H' → g x (L2.wipe σ vs) H' fun σ2 H2 => L2.wipe σ2 vs = L2.wipe σ vs ∧ tt σ2 H2 fun b H3 => if b = true then te σ2 H3 fun y H4 =>
      ∃ (t : Addr) (k : List Int) (L : List (Addr × List Int)), y = .ref t ∧ SqT K H4 t (k.map V.int) ∧ H4 D = some (SetTO P w D L) ∧ (∀ p ∈ L, SqT K H4 p.1 (p.2.map V.int)) ∧ L.length + 1 < 64 ∧
        ∀ L', (k ∈ L.map (·.2) → L' = L) → (k ∉ L.map (·.2) → L'.Perm ((t, k) :: L)) → Nx (upd H4 D (SetTO P w D L')) else Nx H3)
theorem pe_scT {elt tg iter : Expr} {ifs : List Expr} {scope : Scope} {own : List (Str × Nat)} {pos : Pos} {wi : TI} {g : TG} {tt : TT} {te : TE} (hc : X.calm = true) (hN : X.N.Nodup) (hu : X.A.units + 2 < cLine) (hi : PI X tg iter wi) (ok : BlkOk X.N X.env.scope scope own)
    (hg : ∀ (s : Shared) (H : Hp) (C : Addr) (cl : List (Str × Addr)) (fp : List Addr), PG (X.blk s H scope (compEnvC scope cl C X.env) fp) tg g)
    (ht : ∀ (s : Shared) (H : Hp) (C : Addr) (cl : List (Str × Addr)) (fp : List Addr), PTs (X.blk s H scope (compEnvC scope cl C X.env) fp) ifs tt)
    (he : ∀ (s : Shared) (H : Hp) (C : Addr) (cl : List (Str × Addr)) (fp : List Addr), PE (X.blk s H scope (compEnvC scope cl C X.env) fp) elt te)
    (hf : ∀ x : Value, foldedSetIterable iter X.env x = pure x := by intro x; rfl) : PE X (.SetComp elt [⟨tg, iter, ifs, 0⟩] scope pos) (tScT X.prog X.w X.K wi g tt te (own.map (·.2))) := by
  refine ⟨fun pins s σ H Q I h => ?_⟩
  rw [PpSet.eval_SetComp]
  refine wpAny_comprehension_free (g := ⟨tg, iter, ifs, 0⟩) (gs := []) (cl := cloFrom X.env.cells scope.names []) rfl hf (closure_ok fun y hy hk => I.ok.has y.1 (ok.free y hy hk)) ok.kind (fun y hy hl => by rw [ok.uniq y hy, hl]) ?_
  refine thn (hi.run pins s σ H _ I h) fun v s1 hv => thn hv fun itv s2 ⟨it, fp, tn, J, H1, e1, I2, T, t0, fo, r⟩ => ?_
  subst e1
  refine PpSet.newSet_ok ?_
  obtain ⟨W, ⟨m0, w0⟩, step⟩ := r s2.heap.objs.size (I2.hok.fresh (Nat.le_refl _))
  have I3 : Inv X pins σ (upd H1 s2.heap.objs.size (SetTO X.prog X.w s2.heap.objs.size [])) { heap := s2.heap.push { cls := .type "set", data := Data.set #[] 0 (SetTable.fresh 0 0 !X.w.params.followText "set-order") }, gens := s2.gens, drawn := s2.drawn, toks := s2.toks, os := s2.os } :=
    I2.laid (t' := s2.toks) (fun b o e => Heap.get?_push_of_some _ e) (Nat.le_refl _) (setTO_new (setTR_fresh (Heap.get?_push_size _ rfl)).t0)
  generalize hD : s2.heap.objs.size = D at *
  generalize hs3 : ({ heap := s2.heap.push { cls := .type "set", data := Data.set #[] 0 (SetTable.fresh 0 0 !X.w.params.followText "set-order") }, gens := s2.gens, drawn := s2.drawn, toks := s2.toks, os := s2.os } : Shared) = s3 at *
  have hk3 : ∀ b o, s2.heap.get? b = some o → s3.heap.get? b = some o := fun b o e => by subst hs3; exact Heap.get?_push_of_some _ e
  have lt2 : ∀ b ∈ fp, b < D := fun b hb => by
    obtain ⟨o, e, _⟩ := T.obj 0 _ t0 b hb
    rw [← hD]; exact Heap.lt_size e
  have fp3 : ∀ b ∈ fp, FpOk X pins (upd H1 D (SetTO X.prog X.w D [])) b ∧ b < s3.heap.objs.size := fun b hb => by
    obtain ⟨h1, h2⟩ := fo b hb
    refine ⟨⟨by rw [upd_ne (Nat.ne_of_lt (lt2 b hb))]; exact h1, h2⟩, ?_⟩
    obtain ⟨o, e, _⟩ := T.obj 0 _ t0 b hb
    exact Heap.lt_size (hk3 b o e)
  refine newEnv_comp ?_
  have IB := block_start (own := own) I3 ok hN fp3
  generalize hcl : cellsFrom (s3.heap.objs.size + 1) scope.names (cloFrom X.env.cells scope.names []) = cl at *
  have tn3 : tn 0 (pushCells (s3.heap.push { cls := .type "dict", data := .dict #[] }) scope.names) :=
    T.keep 0 _ _ t0 fun b hb o e => pushCells_keeps _ _ _ _ (Heap.get?_push_of_some _ (hk3 b o e))
  have f3 : ∀ b ∈ fp, (upd H1 D (SetTO X.prog X.w D [])) b = none := fun b hb => (fp3 b hb).1.1
  have hsz : s3.heap.objs.size ≤ s3.heap.objs.size := Nat.le_refl _
  have loop : codeAny (model X.prog X.w) X.A (Code.compLoop (.SetComp elt [⟨tg, iter, ifs, 0⟩] scope pos) 0 (.ref it) (.ref D) (compEnvC scope cl s3.heap.objs.size X.env))
      (compPost (model X.prog X.w) X.A X.xe none (EP X pins σ Q) (.ref D) s3.heap.objs.size)
      { heap := pushCells (s3.heap.push { cls := .type "dict", data := .dict #[] }) scope.names, gens := s3.gens, drawn := s3.drawn, toks := s3.toks, os := s3.os } := by
    refine PpSet.compLoopS_any (I := fun n s => ∃ i H' σ', Inv (X.blk s3 (upd H1 D (SetTO X.prog X.w D [])) scope (compEnvC scope cl s3.heap.objs.size X.env) fp) [] σ' H' s ∧ L2.wipe σ' (own.map (·.2)) = L2.wipe σ (own.map (·.2)) ∧ W i n H' ∧ tn i s.heap ∧ ∀ b ∈ fp, H' b = none)
      (fun n s4 hI => ?_) m0 ⟨0, _, _, IB, wipe_wipe _ _, w0, tn3, f3⟩
    obtain ⟨i, H4, σ4, I4, ew, wn, t4, f4⟩ := hI
    have fpB : ∀ {s5 : Shared} {H5 : Hp} {σ5 : L2.St}, Inv (X.blk s3 (upd H1 D (SetTO X.prog X.w D [])) scope (compEnvC scope cl s3.heap.objs.size X.env) fp) [] σ5 H5 s5 → (∀ b ∈ fp, H5 b = none) → ∀ b ∈ fp, FpOk (X.blk s3 (upd H1 D (SetTO X.prog X.w D [])) scope (compEnvC scope cl s3.heap.objs.size X.env) fp) [] H5 b := fun {s5 H5 σ5} I5 f5 b hb =>
      ⟨f5 b hb, (I5.ok.exf b hb).1, I5.ok.exfs b hb, .inl hb, (I5.ok.exf b hb).2, fun p hp => by simp at hp⟩
    rcases step i n H4 wn with ⟨hs, q⟩ | ⟨hgo, Nx, nx, turn⟩
    · refine thn (T.done (X.blk s3 (upd H1 D (SetTO X.prog X.w D [])) scope (compEnvC scope cl s3.heap.objs.size X.env) fp) rfl rfl rfl hc i [] s4 σ4 H4 _ I4 (fpB I4 f4) t4 hs) fun r5 s5 ⟨e5, I5⟩ => ?_
      subst e5
      show compPost _ _ _ _ _ _ _ _ _
      obtain ⟨m, hm, _⟩ := I5.loc
      refine ⟨m, hm, fun h' sb => ?_⟩
      have J3 : Inv X pins σ H4 s5 := by
        refine I3.call' (ch := fp) I5.os I5.base I5.hok I5.bare fun b hb => ?_
        obtain ⟨_, h2, _, h4, h5, h6⟩ := (fp3 b hb).1
        exact ⟨h4, h2, h5, h6⟩
      have lc : X.env.locals < s3.heap.objs.size := I3.lt
      refine ⟨.ref D, H4, J3.turned (it := s3.heap.objs.size) (fun b o hb e => by rw [sb.2 b hb]; exact e) I5.free (Nat.ne_of_gt lc) (.inr I3.sz) (fun x c hx => ?_) (fun p hp => ?_), rfl, q⟩
      · obtain ⟨v, ⟨o, e, _⟩⟩ := I3.cell x c hx
        exact Nat.ne_of_lt (Heap.lt_size e)
      · exact Nat.ne_of_lt (Heap.lt_size (I3.pin p hp).1)
    · refine thn (T.item (X.blk s3 (upd H1 D (SetTO X.prog X.w D [])) scope (compEnvC scope cl s3.heap.objs.size X.env) fp) rfl rfl rfl hc i [] s4 σ4 H4 _ I4 (fpB I4 f4) t4 hgo) fun r5 s5 ⟨u, e5, h5⟩ => ?_
      subst e5
      refine thn h5 fun _ s6 ⟨x, H6, I6, rx, y6, t6, f6⟩ => ?_
      have P6 := ((inv_wipe I6 (own.map (·.2))).pinned (fpB I6 f6) fun b hb => T.obj _ _ t6 b hb)
      have tr := turn x H6 y6
      rw [ew] at P6
      refine thnF ((hg s3 (upd H1 D (SetTO X.prog X.w D [])) s3.heap.objs.size cl fp).run _ s6 _ H6 x u _ P6 rx tr) fun _ s7 ⟨σ7, H7, I7, ew7, q7⟩ => ?_
      refine thnF ((ht s3 (upd H1 D (SetTO X.prog X.w D [])) s3.heap.objs.size cl fp).run _ s7 σ7 H7 _ I7 q7) fun b s8 ⟨H8, I8, q8⟩ => ?_
      have back : ∀ {s9 : Shared} {H9 : Hp}, Inv (X.blk s3 (upd H1 D (SetTO X.prog X.w D [])) scope (compEnvC scope cl s3.heap.objs.size X.env) fp) ([] ++ pinsAt fp s6.heap) σ7 H9 s9 → Nx H9 → ∃ m, m < n ∧ ∃ i H' σ', Inv (X.blk s3 (upd H1 D (SetTO X.prog X.w D [])) scope (compEnvC scope cl s3.heap.objs.size X.env) fp) [] σ' H' s9 ∧ L2.wipe σ' (own.map (·.2)) = L2.wipe σ (own.map (·.2)) ∧ W i m H' ∧ tn i s9.heap ∧ ∀ b ∈ fp, H' b = none := fun {s9 H9} I9 hn => by
        obtain ⟨m', hm, w'⟩ := nx _ hn
        have get : ∀ b ∈ fp, ∀ o, s6.heap.get? b = some o → s9.heap.get? b = some o ∧ H9 b = none := fun b hb o e => by
          have := I9.pin (b, o) (show (b, o) ∈ [] ++ ([] ++ pinsAt fp s6.heap) from mem_pinsAt hb e)
          exact ⟨this.1, this.2.1⟩
        refine ⟨m', hm, i + 1, H9, σ7, I9.unpinned, ew7, w', T.keep _ _ _ t6 fun b hb o e => (get b hb o e).1, fun b hb => ?_⟩
        obtain ⟨o, e, _⟩ := T.obj _ _ t6 b hb
        exact (get b hb o e).2
      cases b with
      | false => exact back I8 q8
      | true =>
        refine thnF ((he s3 (upd H1 D (SetTO X.prog X.w D [])) s3.heap.objs.size cl fp).run _ s8 σ7 H8 _ I8 q8) fun vv s10 ⟨z, H10, I10, rz, t, k, L, e1, e2, e3, e4, e5, q10⟩ => ?_
        subst e1
        cases rz
        exact d_setAddT (X := X.blk s3 (upd H1 D (SetTO X.prog X.w D [])) scope (compEnvC scope cl s3.heap.objs.size X.env) fp) hu I10 e3 e4 e2 e5 fun L' s' z1 z2 J => back J (q10 L' z1 z2)
  refine PpSet.codeAny_compStart_set ?_ ?_
  · exact loop
  · exact T.self _ 0 _ _ _ tn3 loop
end
end DL

/-! hand rules: sorted of a set of tuples of ints, of unlike length -/
namespace DL
open PySem PySem.Spec L2 PySem.W
section
variable {X : Cx}
def rSortedTS (P : Program) (w : World) (K : PySem.W.Frag) : List V → Hp → VK → Prop := fun vs H Q => ∃ (Pr : Addr → List Int → Prop) (a : Addr) (L : List (Addr × List Int)), vs = [V.ref a] ∧ H a = some (SetTO P w a L) ∧ (∀ p ∈ L, SqT K H p.1 (p.2.map V.int) ∧ Pr p.1 p.2) ∧ (∀ p ∈ L, p.2 ≠ []) ∧
  ∀ (xs : List V) (p : Addr), Paired (TupZ Pr K H) xs (sortL (L.map (·.2))) → H p = none → Q (.ref p) (upd H p (.lst xs))
theorem perm_map {α β : Type} {f : α → β} : ∀ {l : List β} {m : List α}, l.Perm (m.map f) → ∃ m' : List α, m'.Perm m ∧ m'.map f = l := fun {l m} p => by
  generalize e : m.map f = n at p
  induction p generalizing m with
  | nil => exact ⟨[], by cases m with
    | nil => exact List.Perm.refl _
    | cons _ _ => simp at e, rfl⟩
  | cons x _ ih =>
    cases m with
    | nil => simp at e
    | cons y m =>
      simp only [List.map_cons, List.cons.injEq] at e
      obtain ⟨rfl, e⟩ := e
      obtain ⟨m', h1, h2⟩ := ih e
      exact ⟨y :: m', h1.cons y, by rw [List.map_cons, h2]⟩
  | swap x y l =>
    match m, e with
    | a :: b :: m, e =>
      simp only [List.map_cons, List.cons.injEq] at e
      obtain ⟨rfl, rfl, rfl⟩ := e
      exact ⟨b :: a :: m, List.Perm.swap a b m, rfl⟩
  | trans _ _ ih1 ih2 =>
    obtain ⟨m2, h1, h2⟩ := ih2 e
    obtain ⟨m1, h3, h4⟩ := ih1 h2
    exact ⟨m1, h3.trans h1, h4⟩
theorem each_map {R : Value → List Int → Prop} : ∀ {L : List (Addr × List Int)}, (∀ p ∈ L, R (.ref p.1) p.2) → EachIs R (L.map fun p => Value.ref p.1) (L.map (·.2))
  | [], _ => .nil
  | p :: L, h => .cons (h p List.mem_cons_self) (each_map fun q hq => h q (List.mem_cons_of_mem _ hq))
theorem cr_sortedTS (hc : X.calm = true) (hu : X.A.units + 64 < cLine) : CallR X (.builtin "sorted") (rSortedTS X.prog X.w X.K) := by
  intro pins s σ H vs us Q I r h
  obtain ⟨Pr, a, L, rfl, hd, hL, hne, q⟩ := h
  rw [Vals.ref1 r]
  have ok : ObjOk X.prog X.w H s.heap a (SetTO X.prog X.w a L) := I.hok a _ hd
  obtain ⟨⟨es, ep, tb, ob, rows, tab, nd, plain, led, room, few⟩, _⟩ := ok
  have R : SetTR X.prog X.w s.heap a L es ep tb := ⟨ob, rows, tab, nd, fun p hp => I.isT (hL p hp).1, plain, led, room, few⟩
  have hsz : es.size = L.length := by rw [← Array.length_toList, rows]; unfold L2.rowsOf; rw [List.length_map]
  refine Calls.call_function_entry PyProof.Rows.kind_sorted PyProof.Rows.plain_sorted PyProof.Rows.entry_sorted (PyProof.Rows.args_sorted1 _) ?_
  unfold Builtin.«sorted»
  refine wpAny_bind (m := checkCount "sorted" 1 1 _) (wpAny_pure ?_)
  have hat : L2.SetAt s.heap a es ep tb := by
    obtain ⟨o, e1, e2, e3⟩ := ob
    exact ⟨o, e1, e2.1, e3⟩
  have hsc : es.size < scanBound := by
    rw [hsz]
    exact Nat.lt_of_lt_of_le few (by decide)
  refine wpAny_bind (collect_set (P := X.prog) (w := X.w) (show X.A.in1.handled = none from I.ok.hd hc) hat R.fits hsc tab.ris led fun s1 out hk hs hg ho hp => ?_)
  have hp2 : out.Perm (L.map fun p => Value.ref p.1) := by
    refine hp.trans ?_
    rw [rows]; unfold L2.rowsOf; rw [List.map_map]
    exact List.Perm.refl _
  obtain ⟨L', hL', e'⟩ := perm_map hp2
  subst e'
  have hlen : L'.length = L.length := hL'.length_eq
  have hz : (L'.map fun p => Value.ref p.1).length ≤ sizeLine := by
    rw [List.length_map, hlen]
    have : 64 ≤ sizeLine := by decide
    omega
  refine wpAny_bind (wpAny_newList ?_ hz)
  have ea : EachIs (TupU Pr X.K H) (L'.map fun p => Value.ref p.1) (L'.map (·.2)) := each_map fun p hp => by
    have := hL p (hL'.mem_iff.mp hp)
    exact ⟨p.1, rfl, this.1, this.2⟩
  have I2 : Inv X pins σ H { heap := s1.heap, gens := s.gens, drawn := s.drawn, toks := s1.toks, os := s.os } := I.kept (t' := s1.toks) hk
  have hl2 : (L'.map (·.2)).length ≤ sizeLine := by rw [List.length_map]; rw [List.length_map] at hz; exact hz
  refine wpAny_bind (wpAny_holding (sort_new (D := s1.heap.objs.size) (n := 0) I2 (bs := L'.map (·.2)) (vs := L'.map fun p => Value.ref p.1) ?_ (fun b o q => Heap.get?_push_of_some _ q) (Nat.le_refl _) ho hg (Heap.get?_push_size _ rfl) ea (fun b hb => ?_) hl2 fun xs s' h1 J => ?_))
  · show X.A.units + 1 + 2 < cLine
    omega
  · obtain ⟨p, hp', rfl⟩ := List.mem_map.mp hb
    exact hne p (hL'.mem_iff.mp hp')
  · have e3 : sortL (L'.map (·.2)) = sortL (L.map (·.2)) := sortL_uniq ((sortL_perm _).trans ((hL'.map _).trans (sortL_perm _).symm)) (sortL_sorted _) (sortL_sorted _)
    rw [e3] at h1
    exact wpAny_pure ⟨_, rfl, .ref _, _, J, rfl, q xs _ h1 (I2.hok.fresh (Nat.le_refl _))⟩
end
end DL

namespace DL
open PySem PySem.Spec L2

section
variable {c : Cc} {ta tb tc : TE} {ma mb mc : M D}
/-- tuple(xs), its object known -/
theorem cb_tupleF : CB c (fun xs H Q => ∃ p ys, xs = [.ref p] ∧ SqL c.K H p ys ∧ ∀ l o, H l = none → o.cls = .type "tuple" → o.dict = none → Q (.ref l) (upd H l (.frz o (.tup ys)))) (f1 fun d => (lstD d).map D.ftup) := fun F H vs ds z Q s r h k => by
  obtain ⟨d, rfl, h⟩ := f1_some h
  obtain ⟨es, h1, rfl⟩ := Option.map_eq_some_iff.mp h
  obtain rfl := lstD_ok h1
  obtain ⟨v, rfl, r1⟩ := rbl1 r
  obtain ⟨a, xs, rfl, e, rl⟩ := r1.lst s
  refine ⟨a, xs, rfl, SqL.of e, fun p o hp e1 e2 => ?_⟩
  have x2 : Ext F H (upd F p (.frz o (.tup xs))) (upd H p (.frz o (.tup xs))) := Ext.laid s hp
  exact k _ _ _ x2 (.obj upd_same (.ftup e1 e2 (rl.mono x2.f)))
/-- t.index(i) -/
def fTIdx (d e : D) : Option D := match d, e with
  | .ftup ds, .int i => (intsD ds).bind fun is => if is.contains i then some (.int (is.idxOf i : Nat)) else none
  | _, _ => none
theorem ex_tidx (ha : Ex c ta ma) (hb : Ex c tb mb) : Ex c (tBMF "tuple" (rTIdx c.K) ta (tCons tb tNil)) (m2 fTIdx ma mb) := fun δ σ F H Q z S e k => by
  obtain ⟨d1, d2, e1, e2, e3⟩ := m2_some e
  unfold fTIdx at e3
  split at e3
  · rename_i ds i
    obtain ⟨is, e4, e5⟩ := Option.bind_eq_some_iff.mp e3
    split at e5
    · rename_i hi
      cases e5
      refine ha δ σ F H _ _ S e1 fun x F1 H1 x1 r1 => ?_
      obtain ⟨a, ob, xs, rfl, h1, h2, h3, rl⟩ := rp_ftup r1
      refine ⟨⟨a, ob, _, rfl, x1.s _ _ h1, h2, h3⟩, ?_⟩
      refine hb δ σ F1 H1 _ _ (S.up x1) e2 fun y F2 H2 x2 r2 => ?_
      obtain rfl := rp_int r2
      obtain ⟨rfl, _⟩ := ints_ok rl e4
      exact ⟨a, is, i, rfl, rfl, sqt_frz (x2.s _ _ (x2.f _ _ h1)), by simpa using hi, k _ F2 H2 (x1.trans x2) (.int _)⟩
    · cases e5
  · cases e3
/-- len of a dict whose keys are tuples -/
def fLenT (d : D) : Option D := match d with
  | .dct true ks _ => some (.int ks.length)
  | _ => none
theorem cb_lenT : CB c rLenT (f1 fLenT) := fun F H vs ds z Q s r h k => by
  obtain ⟨d, rfl, h0⟩ := f1_some h
  clear h
  obtain ⟨v, rfl, r1⟩ := rbl1 r
  unfold fLenT at h0
  split at h0
  · cases h0
    obtain ⟨a, kvs, rfl, e, e2, rl⟩ := r1.dT s
    refine ⟨a, kvs, rfl, e, ?_⟩
    subst e2
    rw [List.length_map] at k
    exact k _ F H (Ext.refl s) (.int _)
  · cases h0
/-- isinstance where the answer is one for all values of a kind -/
def fIsi (kd : D → Bool) (cd : D → Bool) (b : Bool) : List D → Option D
  | [d, e] => if kd d && cd e then some (.bl b) else none
  | _ => none
theorem cb_isi {kd cd : D → Bool} {b : Bool} {t u : Value} (h1 : ∀ F d v, kd d = true → Rp c.K F v d → TyX c.K F v t) (h2 : ∀ F e v, cd e = true → Rp c.K F v e → ClsV v u) (h3 : PySem.W.kitOne c.K t u = some b) : CB c (rIsi c.K) (fIsi kd cd b) := fun F H vs ds z Q s r h k => by
  unfold fIsi at h
  split at h
  · rename_i d e
    split at h
    · rename_i hq
      cases h
      obtain ⟨q1, q2⟩ := (Bool.and_eq_true _ _).mp hq
      obtain ⟨v, w, rfl, r1, r2⟩ := rbl2 r
      exact ⟨v, w, t, u, b, rfl, h2 H e w q2 (r2.h s), h1 H d v q1 (r1.h s), h3, k _ F H (Ext.refl s) (.bl _)⟩
    · cases h
  · cases h
def isIntD : D → Bool
  | .int _ => true
  | _ => false
def isTupD : D → Bool
  | .tup _ => true
  | .ftup _ => true
  | _ => false
def isInsD (C : Addr) : D → Bool
  | .ins C' _ _ => C' == C
  | _ => false
def isTyD (n : String) : D → Bool
  | .ty m => m == n
  | _ => false
def isCstD (a : Addr) : D → Bool
  | .cst b => b == a
  | _ => false
theorem tyx_int {K : PySem.W.Frag} : ∀ F d v, isIntD d = true → Rp K F v d → TyX K F v (.type "int") := fun F d v h r => by
  cases d <;> first
    | (obtain rfl := rp_int r; exact .base (.int _))
    | cases h
theorem tyx_tup {K : PySem.W.Frag} : ∀ F d v, isTupD d = true → Rp K F v d → TyX K F v (.type "tuple") := fun F d v h r => by
  cases d <;> first
    | (obtain ⟨a, xs, rfl, e, _⟩ := rp_tup r; exact .base (.tup e))
    | (obtain ⟨a, ob, xs, rfl, e, _⟩ := rp_ftup r; exact .fTuple e)
    | cases h
theorem tyx_ins {K : PySem.W.Frag} {C : Addr} (h1 : Cls K C) (h2 : PySem.W.findIn K (.ref C) "__class__" = some (some (.builtin "object.__class__"))) (h3 : PySem.W.specialIn K (.builtin "object.__class__") "__get__" = some (some (.builtin "getset_descriptor.__get__")))
    (h4 : PySem.W.takesIn K (.builtin "object.__class__") = some true) (h5 : PySem.W.mroIn K C (.type "object") = some true) : ∀ F d v, isInsD C d = true → Rp K F v d → TyX K F v (.ref C) := fun F d v h r => by
  cases d with
  | ins C' ns vs =>
    obtain ⟨a, dx, fs, rfl, e, _, _⟩ := rp_ins r
    obtain rfl : C' = C := by simpa [isInsD] using h
    exact .base (.ins e h1 h2 h3 h4 h5)
  | _ => cases h
theorem cls_ty {K : PySem.W.Frag} {n : String} : ∀ F e v, isTyD n e = true → Rp K F v e → ClsV v (.type n) := fun F e v h r => by
  cases e with
  | ty m =>
    obtain rfl : m = n := by simpa [isTyD] using h
    cases r with
    | ty _ => exact .ty _
    | obj _ r => cases r
  | _ => cases h
theorem cls_own {K : PySem.W.Frag} {a : Addr} : ∀ F e v, isCstD a e = true → Rp K F v e → ClsV v (.ref a) := fun F e v h r => by
  cases e with
  | cst m =>
    obtain rfl : m = a := by simpa [isCstD] using h
    cases r with
    | cst _ => exact .own _
    | obj _ r => cases r
  | _ => cases h
/-- a + b, tuples -/
def fCat (d e : D) : Option D := (tupD d).bind fun ds => (tupD e).bind fun es => if decide (ds.length + es.length ≤ sizeLine) then (if ds.isEmpty then some e else if es.isEmpty then some d else some (.tup (ds ++ es))) else none
theorem op_cat' : OpF c (rCatA c.K) fCat := fun F H x y d e z Q s r1 r2 h k => by
  unfold fCat at h
  obtain ⟨ds, h1, h⟩ := Option.bind_eq_some_iff.mp h
  obtain ⟨es, h2, h⟩ := Option.bind_eq_some_iff.mp h
  split at h
  · rename_i hl
    obtain ⟨a, xs, rfl, q1, rl1⟩ := tupD_ok r1 h1
    obtain ⟨b, ys, rfl, q2, rl2⟩ := tupD_ok r2 h2
    have hl := of_decide_eq_true hl
    refine ⟨a, b, xs, ys, rfl, rfl, same_seqT s q1, same_seqT s q2, by rw [rl1.length, rl2.length]; exact hl, fun e1 => ?_, fun e1 e2 => ?_, fun e1 e2 p hp => ?_⟩
    · subst e1; cases rl1
      cases h
      exact k _ F H (Ext.refl s) r2
    · subst e2; cases rl2
      cases ds with
      | nil => cases rl1; exact absurd rfl e1
      | cons d1 ds => cases h; exact k _ F H (Ext.refl s) r1
    · cases ds with
      | nil => cases rl1; exact absurd rfl e1
      | cons d1 ds =>
        cases es with
        | nil => cases rl2; exact absurd rfl e2
        | cons d2 es =>
          cases h
          have x2 : Ext F H (upd F p (.tup (xs ++ ys))) (upd H p (.tup (xs ++ ys))) := Ext.laid s hp
          exact k _ _ _ x2 (.obj upd_same (.tup ((rl1.app rl2).mono x2.f)))
  · cases h
/-- tuples of ints of a list -/
def zD : D → Option (List Int)
  | .tup ds => match intsD ds with
    | some (i :: is) => some (i :: is)
    | _ => none
  | _ => none
def zsD : List D → Option (List (List Int))
  | [] => some []
  | d :: ds => (zD d).bind fun b => (zsD ds).map fun bs => b :: bs
def tupI (b : List Int) : D := .tup (b.map D.int)
theorem zD_ok {d : D} {b : List Int} (h : zD d = some b) : ∃ ds, d = .tup ds ∧ intsD ds = some b ∧ b ≠ [] := by
  cases d with
  | tup ds =>
    unfold zD at h
    simp only at h
    split at h
    · rename_i i is q; cases h; exact ⟨ds, rfl, q, by simp⟩
    · cases h
  | _ => cases h
theorem zs_ok {K : PySem.W.Frag} {F H : Hp} (s : Same F H) : ∀ {ds : List D} {vs : List V} {bs : List (List Int)}, RpL K F vs ds → zsD ds = some bs → Paired (TupZ (fun t b => F t = some (.tup (b.map V.int))) K H) vs bs ∧ ∀ b ∈ bs, b ≠ []
  | [], _, _, r, h => by cases h; cases r; exact ⟨.nil, fun b hb => by cases hb⟩
  | d :: ds, _, _, r, h => by
    obtain ⟨b, h1, h2⟩ := Option.bind_eq_some_iff.mp (show ((zD d).bind fun b => (zsD ds).map fun bs => b :: bs) = some _ from h)
    obtain ⟨bs, h3, h4⟩ := Option.map_eq_some_iff.mp h2
    subst h4
    cases r with
    | cons r1 r2 =>
      obtain ⟨es, rfl, h5, h6⟩ := zD_ok h1
      obtain ⟨a, xs, rfl, e, rl⟩ := rp_tup r1
      obtain ⟨rfl, _⟩ := ints_ok rl h5
      obtain ⟨q1, q2⟩ := zs_ok s r2 h3
      refine ⟨.cons ⟨a, rfl, SqT.of (s _ _ e), e⟩ q1, fun y hy => ?_⟩
      rcases List.mem_cons.mp hy with rfl | hy
      · exact h6
      · exact q2 y hy
theorem paired_rp {K : PySem.W.Frag} {F H : Hp} : ∀ {vs : List V} {bs : List (List Int)}, Paired (TupZ (fun t b => F t = some (.tup (b.map V.int))) K H) vs bs → RpL K F vs (bs.map tupI)
  | _, _, .nil => .nil
  | _, _, .cons ⟨t, e, _, h⟩ r => by
    subst e
    exact .cons (.obj h (.tup (rpl_ints _))) (paired_rp r)
def fSortedZ (d : D) : Option D := (lstD d).bind fun ds => (zsD ds).map fun bs => .lst ((sortL bs).map tupI)
theorem co_sortedZ : CO c (rSortedZ c.K) (f1 fSortedZ) := fun F H vs ds z Q s r h k => by
  obtain ⟨d, rfl, h⟩ := f1_some h
  obtain ⟨es, h1, h⟩ := Option.bind_eq_some_iff.mp h
  obtain ⟨bs, h2, rfl⟩ := Option.map_eq_some_iff.mp h
  obtain rfl := lstD_ok h1
  obtain ⟨v, rfl, r1⟩ := rbl1 r
  obtain ⟨a, xs, rfl, e, rl⟩ := r1.lst s
  obtain ⟨q1, q2⟩ := zs_ok s rl h2
  exact ⟨_, a, xs, bs, rfl, SqL.of e, q1, q2, fun ys p hy hp => k p _ F _ (Ext.temp s hp) hp upd_same (none_of s hp) (.lst (paired_rp hy))⟩
theorem freeze_all {K : PySem.W.Frag} : ∀ {vs : List V} {bs : List (List Int)} {F H : Hp}, Same F H → Paired (TupZ (fun t b => H t = some (.tup (b.map V.int))) K H) vs bs → ∃ F', Ext F H F' H ∧ RpL K F' vs (bs.map tupI)
  | _, _, F, H, s, .nil => ⟨F, Ext.refl s, .nil⟩
  | _, _, F, H, s, .cons ⟨t, e, _, h⟩ r => by
    subst e
    obtain ⟨F1, x1, h1⟩ := Ext.tup s h
    obtain ⟨F2, x2, h2⟩ := freeze_all x1.s r
    exact ⟨F2, x1.trans x2, .cons (.obj (x2.f _ _ h1) (.tup (rpl_ints _))) h2⟩
theorem intsD_keys : ∀ {k : List Key} {b : List Int}, intsD (k.map kD) = some b → k = b.map Sum.inl
  | [], b, h => by cases h; rfl
  | .inl i :: k, b, h => by
    obtain ⟨us, h3, rfl⟩ := Option.map_eq_some_iff.mp (show (intsD (k.map kD)).map (fun is => i :: is) = some b from h)
    rw [intsD_keys h3]; rfl
  | .inr x :: k, b, h => by cases h
theorem zs_keys : ∀ {kvs : List (List Key × V)} {bs : List (List Int)}, zsD (kvs.map fun p => D.tup (p.1.map kD)) = some bs → kvs.map (·.1) = bs.map (fun b => b.map Sum.inl) ∧ ∀ b ∈ bs, b ≠ []
  | [], bs, h => by cases h; exact ⟨rfl, fun b hb => by cases hb⟩
  | p :: kvs, bs, h => by
    obtain ⟨b, h1, h2⟩ := Option.bind_eq_some_iff.mp (show ((zD (D.tup (p.1.map kD))).bind fun b => (zsD (kvs.map fun p => D.tup (p.1.map kD))).map fun bs => b :: bs) = some bs from h)
    obtain ⟨us, h3, rfl⟩ := Option.map_eq_some_iff.mp h2
    obtain ⟨es, e1, h5, h6⟩ := zD_ok h1
    cases e1
    obtain ⟨q1, q2⟩ := zs_keys h3
    refine ⟨by rw [List.map_cons, List.map_cons, q1, intsD_keys h5], fun y hy => ?_⟩
    rcases List.mem_cons.mp hy with rfl | hy
    · exact h6
    · exact q2 y hy
/-- sorted(d), the keys tuples of ints -/
def fSortedTD (d : D) : Option D := match d with
  | .dct true ks _ => (zsD ks).map fun bs => .lst ((sortL bs).map tupI)
  | _ => none
theorem co_sortedTD : CO c (rSortedTD c.K) (f1 fSortedTD) := fun F H vs ds z Q s r h k => by
  obtain ⟨d, rfl, h0⟩ := f1_some h
  clear h
  obtain ⟨v, rfl, r1⟩ := rbl1 r
  unfold fSortedTD at h0
  split at h0
  · obtain ⟨bs, h2, rfl⟩ := Option.map_eq_some_iff.mp h0
    obtain ⟨a, kvs, rfl, e, e2, rl⟩ := r1.dT s
    subst e2
    obtain ⟨q1, q2⟩ := zs_keys h2
    refine ⟨a, kvs, bs, rfl, e, q1, q2, fun xs p hy hp => ?_⟩
    obtain ⟨F1, x1, h1⟩ := freeze_all s hy
    exact k p _ F1 _ (x1.trans (Ext.temp x1.s hp)) hp upd_same (none_of x1.s hp) (.lst h1)
  · cases h0
/-- sorted(d), the keys ints -/
def fSortedKI (d : D) : Option D := match d with
  | .dct false ks _ => (intsD ks).bind fun is => if decide (is.length < 64) then some (.lst ((sortI is).map D.int)) else none
  | _ => none
theorem ints_keys1 : ∀ {kvs : List (Key × V)} {is : List Int}, intsD (kvs.map fun p => kD p.1) = some is → kvs.map (·.1) = is.map Sum.inl
  | [], b, h => by cases h; rfl
  | (.inl i, v) :: k, b, h => by
    obtain ⟨us, h3, rfl⟩ := Option.map_eq_some_iff.mp (show (intsD (k.map fun p => kD p.1)).map (fun is => i :: is) = some b from h)
    rw [List.map_cons, ints_keys1 h3]; rfl
  | (.inr x, v) :: k, b, h => by cases h
theorem co_sortedKI : CO c (fun xs H Q => ∃ (a : Addr) (kvs : List (Key × V)) (ks : List Int), xs = [.ref a] ∧ Rd H a (.dK kvs) ∧ kvs.map (·.1) = ks.map Sum.inl ∧ ks.length < 64 ∧ ∀ (ys : List Int) (p : Addr), ys.Perm ks → ys.Pairwise (· ≤ ·) → H p = none → Q (.ref p) (upd H p (.lst (ys.map V.int)))) (f1 fSortedKI) := fun F H vs ds z Q s r h k => by
  obtain ⟨d, rfl, h0⟩ := f1_some h
  clear h
  obtain ⟨v, rfl, r1⟩ := rbl1 r
  unfold fSortedKI at h0
  split at h0
  · obtain ⟨is, h2, h3⟩ := Option.bind_eq_some_iff.mp h0
    split at h3
    · rename_i hl
      cases h3
      obtain ⟨a, kvs, rfl, e, e2, rl⟩ := r1.dK s
      subst e2
      refine ⟨a, kvs, is, rfl, .inl e, ints_keys1 h2, of_decide_eq_true hl, fun ns' p pm sr hp => ?_⟩
      obtain rfl := sorted_uniq (pm.trans (sortI_perm is).symm) sr (sortI_sorted is)
      exact k p _ F _ (Ext.temp s hp) hp upd_same (none_of s hp) (.lst (rpl_ints _))
    · cases h3
  · cases h0
end
end DL

namespace DL
open PySem PySem.Spec L2

section
variable {c : Cc} {ta tb tc : TE} {ma mb mc : M D}
/-! enumerate -/
def enumD (i : Nat) : List D → List D
  | [] => []
  | d :: ds => .tup [.int i, d] :: enumD (i + 1) ds
theorem enumD_len : ∀ (ds : List D) (i : Nat), (enumD i ds).length = ds.length
  | [], _ => rfl
  | d :: ds, i => by show (enumD (i + 1) ds).length + 1 = _; rw [enumD_len ds]; rfl
theorem enumD_get : ∀ (ds : List D) (i j : Nat) (d : D), (enumD i ds)[j]? = some d → ∃ e, ds[j]? = some e ∧ d = .tup [.int (i + j : Nat), e]
  | [], _, _, _, h => by simp [enumD] at h
  | e :: ds, i, 0, d, h => by simp [enumD] at h; exact ⟨e, rfl, h.symm⟩
  | e :: ds, i, j + 1, d, h => by
    obtain ⟨e', h1, h2⟩ := enumD_get ds (i + 1) j d (by simpa [enumD] using h)
    exact ⟨e', by simpa using h1, by rw [h2]; congr 3; omega⟩
theorem enum_yld {K : PySem.W.Frag} {F H : Hp} {T : Addr} {i : Nat} {x : V} {d : D} (s : Same F H) (hT : H T = none) (r : Rp K F x d) : ∃ F', Ext F H F' (upd H T (.tup [.int (i : Nat), x])) ∧ Rp K F' (.ref T) (.tup [.int (i : Nat), d]) :=
  ⟨upd F T _, Ext.laid s hT, .obj upd_same (.tup (.cons (.int _) (.cons (r.mono (Ext.laid s hT).f) .nil)))⟩
theorem its_enumT {K : PySem.W.Frag} {F : Hp} {a : Addr} {xs : List V} {ds : List D} (h : SqT K F a xs) (r : RpL K F xs ds) : Its K (Iet K a) F (enumD 0 ds) where
  go := fun i F' H s1 s2 hi => by
    rw [enumD_len] at hi
    have hx : i < xs.length := by rw [r.length]; exact hi
    exact ⟨xs, xs[i], same_seqT s2 (same_seqT s1 h), by simp [hx]⟩
  stop := fun F' H s1 s2 => ⟨xs, same_seqT s2 (same_seqT s1 h), by rw [enumD_len, r.length]⟩
  yld := fun i F' H x H' d s1 s2 hd hy => by
    obtain ⟨T, y, rfl, hT, rfl, hy⟩ := hy
    obtain ⟨e, h1, rfl⟩ := enumD_get ds 0 i d hd
    obtain ⟨v, h2, h3⟩ := r.get h1
    have := hy xs (same_seqT s2 (same_seqT s1 h))
    rw [h2] at this; cases this
    rw [Nat.zero_add]
    exact enum_yld s2 hT (h3.mono s1)
theorem its_enumL {K : PySem.W.Frag} {F : Hp} {a : Addr} {xs : List V} {ds : List D} (h : F a = some (.lst xs)) (r : RpL K F xs ds) : Its K (Ite K a) F (enumD 0 ds) where
  go := fun i F' H s1 s2 hi => by
    rw [enumD_len] at hi
    have hx : i < xs.length := by rw [r.length]; exact hi
    exact ⟨xs, xs[i], SqL.of (s2 _ _ (s1 _ _ h)), by simp [hx]⟩
  stop := fun F' H s1 s2 => ⟨xs, SqL.of (s2 _ _ (s1 _ _ h)), by rw [enumD_len, r.length]; exact Nat.le_refl _⟩
  yld := fun i F' H x H' d s1 s2 hd hy => by
    obtain ⟨T, y, rfl, hT, rfl, hy⟩ := hy
    obtain ⟨e, h1, rfl⟩ := enumD_get ds 0 i d hd
    obtain ⟨v, h2, h3⟩ := r.get h1
    have := hy xs (SqL.of (s2 _ _ (s1 _ _ h)))
    rw [h2] at this; cases this
    rw [Nat.zero_add]
    exact enum_yld s2 hT (h3.mono s1)
def mItE (m : M D) : M (List D) := fun δ => (m δ).bind fun d => (lstD d).map (enumD 0)
def mItET (m : M D) : M (List D) := fun δ => (m δ).bind fun d => (tupD d).map (enumD 0)
theorem wx_enumT (h : Ex c ta ma) : Wx c (iEnumT c.K (tCons ta tNil)) (mItET ma) := fun δ σ F H R ds S e k => by
  obtain ⟨d, e1, e2⟩ := Option.bind_eq_some_iff.mp (show (ma δ).bind (fun d => (tupD d).map (enumD 0)) = some ds from e)
  obtain ⟨es, e3, rfl⟩ := Option.map_eq_some_iff.mp e2
  refine h δ σ F H _ _ S e1 fun v F' H' x r => ?_
  obtain ⟨a, xs, rfl, h1, rl⟩ := tupD_ok r e3
  exact ⟨a, xs, rfl, same_seqT x.s h1, k _ F' H' x (its_enumT h1 rl)⟩
theorem wx_enum (h : Ex c ta ma) : Wx c (iEnum c.K (tCons ta tNil)) (mItE ma) := fun δ σ F H R ds S e k => by
  obtain ⟨d, e1, e2⟩ := Option.bind_eq_some_iff.mp (show (ma δ).bind (fun d => (lstD d).map (enumD 0)) = some ds from e)
  obtain ⟨es, e3, rfl⟩ := Option.map_eq_some_iff.mp e2
  obtain rfl := lstD_ok e3
  refine h δ σ F H _ _ S e1 fun v F' H' x r => ?_
  obtain ⟨a, xs, rfl, h1, rl⟩ := rp_lst r
  exact ⟨a, xs, rfl, SqL.of (x.s _ _ h1), k _ F' H' x (its_enumL h1 rl)⟩
/-! dict comprehensions whose keys are tuples -/
def loopDC (st : DS → D → Option DS) (t : M Bool) (mk mv : M D) (δ : DS) : List D → List D → List D → Option D
  | [], ks, vs => some (.dct true ks vs)
  | d :: ds, ks, vs => match st δ d with
    | none => none
    | some δ1 => match t δ1 with
      | some true => match mk δ1 with
        | some (.tup es) => match keysD es with
          | some k => match mv δ1 with
            | some y => loopDC st t mk mv δ ds (dPutK ks (.tup (k.map kD))) (dPutW ks vs (.tup (k.map kD)) y)
            | none => none
          | none => none
        | _ => none
      | some false => loopDC st t mk mv δ ds ks vs
      | none => none
def mDcT (vs : List Nat) (w : M (List D)) (st : DS → D → Option DS) (t : M Bool) (mk mv : M D) : M D := fun δ => (w δ).bind fun ds => if decide (ds.length < sizeLine) then loopDC st t mk mv (wipeD δ vs) ds [] [] else none
theorem ox_dcT {wi : TI} {g : TG} {st : DS → D → Option DS} {tt : TT} {t : M Bool} {tk tv : TE} {mk mv : M D} {w : M (List D)} {vs : List Nat} (hw : Wx c wi w) (hg : Gw c g st vs) (ht : Tx c tt t) (hk : Ex c tk mk) (he : Ex c tv mv) :
    Ox c (tDcT wi g tt tk tv vs) (mDcT vs w st t mk mv) := fun δ σ F H Q z S e k => by
  obtain ⟨ds, e1, e2⟩ := Option.bind_eq_some_iff.mp (show (w δ).bind _ = some z from e)
  split at e2
  case isFalse => cases e2
  case isTrue hl =>
  have hl := of_decide_eq_true hl
  refine hw δ σ F H _ ds S e1 fun J F1 H1 x1 it A hA => ?_
  have hFA : F1 A = none := none_of x1.s hA
  have xA : Ext F1 H1 F1 (upd H1 A (.dT [])) := Ext.temp x1.s hA
  refine ⟨fun i n H' => n = ds.length - i ∧ i ≤ ds.length ∧ ∃ F' kvs ks ws, Ext F1 H1 F' H' ∧ F' A = none ∧ H' A = some (.dT kvs) ∧ kvs.map (fun p => D.tup (p.1.map kD)) = ks ∧ RpL c.K F' (kvs.map (·.2)) ws ∧ kvs.length ≤ i ∧ loopDC st t mk mv (wipeD δ vs) (ds.drop i) ks ws = some z,
    ⟨ds.length, by simp, Nat.zero_le _, F1, [], [], [], xA, hFA, upd_same, rfl, .nil, Nat.le_refl _, e2⟩, ?_⟩
  rintro i n H2 ⟨rfl, hi, F2, kvs, ks, ws, x2, hF2, hH2, hks, rl, ha, e4⟩
  by_cases hlt : i < ds.length
  · refine .inr ⟨it.go i F2 H2 x2.f x2.s hlt, ?_⟩
    cases q : ds.drop i with
    | nil =>
      have := congrArg List.length q
      rw [List.length_drop] at this
      simp at this
      omega
    | cons d r =>
      obtain ⟨g1, g2, _⟩ := drop_get q
      rw [q] at e4
      unfold loopDC at e4
      refine ⟨fun H' => ∃ F' kvs ks ws, Ext F1 H1 F' H' ∧ F' A = none ∧ H' A = some (.dT kvs) ∧ kvs.map (fun p => D.tup (p.1.map kD)) = ks ∧ RpL c.K F' (kvs.map (·.2)) ws ∧ kvs.length ≤ i + 1 ∧ loopDC st t mk mv (wipeD δ vs) (ds.drop (i + 1)) ks ws = some z, fun H' z => ⟨_, by omega, rfl, hlt, z⟩, fun x H3 y => ?_⟩
      obtain ⟨F3, x3, r3⟩ := it.yld i F2 H2 x H3 d x2.f x2.s g1 y
      have S3 : SR c.K c.F0 c.H0 F3 H3 (L2.wipe σ vs) (wipeD δ vs) := (((S.up x1).up x2).up x3).wipes vs
      have hF3 : F3 A = none := x3.n A _ hF2 hH2 rfl
      have hH3 : H3 A = some (.dT kvs) := x3.h A _ hH2
      cases q1 : st (wipeD δ vs) d with
      | none => rw [q1] at e4; cases e4
      | some δ3 =>
        rw [q1] at e4
        dsimp only at e4
        refine hg _ δ3 σ F3 H3 _ x d S3 r3 q1 fun σ4 S4 hw4 => ⟨hw4, ?_⟩
        cases q2 : t δ3 with
        | none => rw [q2] at e4; cases e4
        | some k1 =>
          rw [q2] at e4
          refine ht δ3 σ4 F3 H3 _ k1 S4 q2 fun F5 H5 x5 => ?_
          have hF5 : F5 A = none := x5.n A _ hF3 hH3 rfl
          have hH5 : H5 A = some (.dT kvs) := x5.h A _ hH3
          cases k1 with
          | false =>
            refine iteF ⟨F5, kvs, ks, ws, (x2.trans x3).trans x5, hF5, hH5, hks, (rl.mono x3.f).mono x5.f, by omega, by rw [g2]; exact e4⟩
          | true =>
            dsimp only at e4
            split at e4
            case h_2 => cases e4
            rename_i es q3
            cases q4 : keysD es with
            | none => rw [q4] at e4; cases e4
            | some ky =>
              rw [q4] at e4
              dsimp only at e4
              cases q5 : mv δ3 with
              | none => rw [q5] at e4; cases e4
              | some yv =>
                rw [q5] at e4
                dsimp only at e4
                refine iteT (hk δ3 σ4 F5 H5 _ _ (S4.up x5) q3 fun v F6 H6 x6 r6 => he δ3 σ4 F6 H6 _ yv ((S4.up x5).up x6) q5 fun w F7 H7 x7 r7 => ?_)
                have hF6 : F6 A = none := x6.n A _ hF5 hH5 rfl
                have hH6 : H6 A = some (.dT kvs) := x6.h A _ hH5
                have hF7 : F7 A = none := x7.n A _ hF6 hH6 rfl
                have hH7 : H7 A = some (.dT kvs) := x7.h A _ hH6
                obtain ⟨b, xs, rfl, e6, rk⟩ := rp_tup r6
                rw [keysD_ok q4] at rk
                obtain rfl := rp_keys rk
                have hx : Ext F1 H1 F7 H7 := (((x2.trans x3).trans x5).trans x6).trans x7
                have rl7 : RpL c.K F7 (kvs.map (·.2)) ws := (((rl.mono x3.f).mono x5.f).mono x6.f).mono x7.f
                subst hks
                obtain ⟨z1, z2⟩ := putK_put (fun k : List Key => D.tup (k.map kD)) beqK_tup ky r7 rl7
                refine ⟨kvs, ky, b, rfl, x7.s _ _ (x7.f _ _ e6), hH7, by omega, F7, _, _, _, ⟨hx.f, fun b o z => ?_, fun b o z => ?_, hx.n⟩, hF7, upd_same, z1, z2, ?_, by rw [g2]; exact e4⟩
                · rw [upd_ne (ne_of_none z hA)]; exact hx.h b o z
                · rw [upd_ne (ne_of_none z hF7)]; exact hx.s b o z
                · have := length_putK kvs ky w; omega
  · have e : i = ds.length := by omega
    subst e
    rw [List.drop_length] at e4
    unfold loopDC at e4
    cases e4
    refine .inl ⟨it.stop F2 H2 x2.f x2.s, k A _ F2 H2 (x1.trans x2) (ext_none x1 hA).2 hH2 hF2 (.dT hks rl)⟩
end
end DL

namespace DL
open PySem PySem.Spec L2

section
variable {c : Cc} {ta tb tc : TE} {ma mb mc : M D}
/-! displays of dicts -/
theorem ox_dnewK : Ox c tDNewK (fun _ => some (.dct false [] [])) := fun δ σ F H Q z S e k => by
  cases e
  exact fun p hp => k p _ F _ (Ext.temp S.sFH hp) hp upd_same (none_of S.sFH hp) (.dK rfl .nil)
theorem ox_dnewT : Ox c tDNewT (fun _ => some (.dct true [] [])) := fun δ σ F H Q z S e k => by
  cases e
  exact fun p hp => k p _ F _ (Ext.temp S.sFH hp) hp upd_same (none_of S.sFH hp) (.dT rfl .nil)
theorem ext_upd {F H F' H' : Hp} {p : Addr} {o : HO} (x : Ext F H F' H') (hp : H p = none) (hf : F' p = none) : Ext F H F' (upd H' p o) :=
  ⟨x.f, fun b u e => by rw [upd_ne (ne_of_none e hp)]; exact x.h b u e, fun b u e => by rw [upd_ne (ne_of_none e hf)]; exact x.s b u e, x.n⟩
def mDispT (mk mv : M D) : M D := fun δ => (mk δ).bind fun e => match e with
  | .tup es => (keysD es).bind fun k => (mv δ).map fun y => .dct true [.tup (k.map kD)] [y]
  | _ => none
theorem ox_dispT {tk tv : TE} {mk mv : M D} (hk : Ex c tk mk) (hv : Ex c tv mv) : Ox c (tDispT tk tv) (mDispT mk mv) := fun δ σ F H Q z S e k p hp => by
  obtain ⟨d, e1, e2⟩ := Option.bind_eq_some_iff.mp e
  have xp : Ext F H F (upd H p (.dT [])) := Ext.temp S.sFH hp
  have hF : F p = none := none_of S.sFH hp
  split at e2
  · obtain ⟨ky, e3, e4⟩ := Option.bind_eq_some_iff.mp e2
    obtain ⟨y, e5, rfl⟩ := Option.map_eq_some_iff.mp e4
    refine hk δ σ F _ _ _ (S.up xp) e1 fun v F1 H1 x1 r1 => hv δ σ F1 H1 _ y ((S.up xp).up x1) e5 fun w F2 H2 x2 r2 => ?_
    obtain ⟨b, xs, rfl, e6, rk⟩ := rp_tup r1
    rw [keysD_ok e3] at rk
    obtain rfl := rp_keys rk
    have x12 := x1.trans x2
    have hH2 := x12.h p _ upd_same
    have hF2 := x12.n p _ hF upd_same rfl
    exact ⟨hH2, ky, b, rfl, x2.s _ _ (x2.f _ _ e6), k p _ F2 _ (ext_upd (xp.trans x12) hp hF2) hp upd_same hF2 (.dT rfl (.cons r2 .nil))⟩
  · cases e2
/-- pairs of a display -/
def mPairs : List (M D × M D) → M (List (Key × D))
  | [] => fun _ => some []
  | (mk, mv) :: ms => fun δ => (mk δ).bind fun e => (keyD e).bind fun k => (mv δ).bind fun y => (mPairs ms δ).map fun r => (k, y) :: r
inductive PxA (c : Cc) : List (TE × TE) → List (M D × M D) → Prop
  | nil : PxA c [] []
  | cons {tk tv : TE} {mk mv : M D} {ts : List (TE × TE)} {ms : List (M D × M D)} : Ex c tk mk → Ex c tv mv → PxA c ts ms → PxA c ((tk, tv) :: ts) ((mk, mv) :: ms)
theorem px_run : ∀ {trs : List (TE × TE)} {ms : List (M D × M D)}, PxA c trs ms → ∀ (δ : DS) (σ : St) (F H : Hp) (Q : List (V × V) → Hp → Prop) (kds : List (Key × D)), SR c.K c.F0 c.H0 F H σ δ → mPairs ms δ = some kds →
    (∀ (kvs : List (Key × V)) F' H', Ext F H F' H' → kvs.map (·.1) = kds.map (·.1) → RpL c.K F' (kvs.map (·.2)) (kds.map (·.2)) → Q (kvs.map fun kv => (kV kv.1, kv.2)) H') → tPairs trs σ H Q
  | _, _, .nil, δ, σ, F, H, Q, kds, S, e, k => by
    cases e
    exact k [] F H (Ext.refl S.sFH) rfl .nil
  | _, _, .cons hk hv r, δ, σ, F, H, Q, kds, S, e, k => by
    obtain ⟨d, e1, f1⟩ := Option.bind_eq_some_iff.mp e
    obtain ⟨ky, e2, f2⟩ := Option.bind_eq_some_iff.mp f1
    obtain ⟨y, e3, f3⟩ := Option.bind_eq_some_iff.mp f2
    obtain ⟨kr, e4, rfl⟩ := Option.map_eq_some_iff.mp f3
    refine hk δ σ F H _ d S e1 fun v F1 H1 x1 r1 => hv δ σ F1 H1 _ y (S.up x1) e3 fun w F2 H2 x2 r2 => ?_
    refine px_run r δ σ F2 H2 _ kr ((S.up x1).up x2) e4 fun kvs F3 H3 x3 z1 z2 => ?_
    obtain rfl := rp_key (by rw [← keyD_ok e2]; exact r1)
    exact k ((ky, w) :: kvs) F3 H3 ((x1.trans x2).trans x3) (by rw [List.map_cons, List.map_cons, z1]) (.cons (r2.mono x3.f) z2)
def foldPut (g : D → D) : List D → List D → List (D × D) → List D × List D
  | ks, vs, [] => (ks, vs)
  | ks, vs, (k, y) :: r => foldPut g (dPutK ks k) (dPutW ks vs k y) r
def putAll (ks vs : List D) : List (D × D) → List D × List D
  | [] => (ks, vs)
  | (k, y) :: r => putAll (dPutK ks k) (dPutW ks vs k y) r
theorem merge_put {K : PySem.W.Frag} {F : Hp} : ∀ {more : List (Key × V)} {kds : List (Key × D)} {kvs : List (Key × V)} {ks vs : List D}, more.map (·.1) = kds.map (·.1) → RpL K F (more.map (·.2)) (kds.map (·.2)) → kvs.map (fun p => kD p.1) = ks → RpL K F (kvs.map (·.2)) vs →
    RpO K F (.dK (mergeK kvs more)) (.dct false (putAll ks vs (kds.map fun p => (kD p.1, p.2))).1 (putAll ks vs (kds.map fun p => (kD p.1, p.2))).2)
  | [], [], kvs, ks, vs, _, _, h1, h2 => .dK h1 h2
  | [], _ :: _, _, _, _, h, _, _, _ => by simp at h
  | _ :: _, [], _, _, _, h, _, _, _ => by simp at h
  | (k, v) :: more, (k', y) :: kds, kvs, ks, vs, h, r, h1, h2 => by
    simp only [List.map_cons, List.cons.injEq] at h
    obtain ⟨rfl, h⟩ := h
    cases r with
    | cons r1 r2 =>
      subst h1
      obtain ⟨z1, z2⟩ := putK_put kD beqK_key k r1 h2
      exact merge_put (more := more) (kds := kds) (kvs := putK kvs k v) h r2 z1 z2
def mDisp (ms : List (M D × M D)) : M D := fun δ => (mPairs ms δ).bind fun kds => if decide (kds.length ≤ 15) then (let r := putAll [] [] (kds.map fun p => (kD p.1, p.2)); some (.dct false r.1 r.2)) else none
theorem ox_disp {trs : List (TE × TE)} {ms : List (M D × M D)} (h : PxA c trs ms) : Ox c (tDisp trs) (mDisp ms) := fun δ σ F H Q z S e k p hp => by
  obtain ⟨kds, e1, e2⟩ := Option.bind_eq_some_iff.mp (show (mPairs ms δ).bind _ = some z from e)
  split at e2
  · rename_i hl
    have hl := of_decide_eq_true hl
    cases e2
    have xp : Ext F H F (upd H p (.dK [])) := Ext.temp S.sFH hp
    have hF : F p = none := none_of S.sFH hp
    refine px_run h δ σ F _ _ kds (S.up xp) e1 fun kvs F1 H1 x1 z1 z2 => ?_
    have hH1 := x1.h p _ upd_same
    have hF1 := x1.n p _ hF upd_same rfl
    have hlen : kvs.length = kds.length := by
      have := congrArg List.length z1
      rwa [List.length_map, List.length_map] at this
    exact ⟨hH1, kvs, rfl, by omega, k p _ F1 _ (ext_upd (xp.trans x1) hp hF1) hp upd_same hF1 (merge_put z1 z2 rfl .nil)⟩
  · cases e2
/-! dict(pairs) -/
def pairT : D → Option (List Key × D)
  | .tup [.tup es, y] => (keysD es).map fun k => (k, y)
  | _ => none
def pairsT : List D → Option (List (List Key × D))
  | [] => some []
  | d :: ds => (pairT d).bind fun p => (pairsT ds).map fun r => p :: r
theorem pairT_ok {d : D} {k : List Key} {y : D} (h : pairT d = some (k, y)) : ∃ es, d = .tup [.tup es, y] ∧ es = k.map kD := by
  unfold pairT at h
  split at h
  · rename_i es y'
    obtain ⟨k', h1, h2⟩ := Option.map_eq_some_iff.mp h
    cases h2
    exact ⟨es, rfl, keysD_ok h1⟩
  · cases h
theorem pairsT_ok {K : PySem.W.Frag} {F H : Hp} (s : Same F H) : ∀ {ds : List D} {vs : List V} {kds : List (List Key × D)}, RpL K F vs ds → pairsT ds = some kds → ∃ (ps : List Addr) (kvs : List (List Key × Addr × V)), vs = ps.map V.ref ∧ Paired (fun p (kv : List Key × Addr × V) => SqT K H p [.ref kv.2.1, kv.2.2] ∧ H kv.2.1 = some (.tup (kv.1.map kV))) ps kvs ∧ kvs.map (·.1) = kds.map (·.1) ∧ RpL K F (kvs.map fun p => p.2.2) (kds.map (·.2))
  | [], _, _, r, h => by cases h; cases r; exact ⟨[], [], rfl, .nil, rfl, .nil⟩
  | d :: ds, _, _, r, h => by
    obtain ⟨⟨k, y⟩, h1, h2⟩ := Option.bind_eq_some_iff.mp (show ((pairT d).bind fun p => (pairsT ds).map fun r => p :: r) = some _ from h)
    obtain ⟨kr, h3, rfl⟩ := Option.map_eq_some_iff.mp h2
    cases r with
    | cons r1 r2 =>
      obtain ⟨es, rfl, rfl⟩ := pairT_ok h1
      obtain ⟨p, xs, rfl, e1, rl⟩ := rp_tup r1
      cases rl with
      | cons q1 rl =>
        cases rl with
        | cons q2 rl =>
          cases rl
          obtain ⟨b, ks, rfl, e2, rk⟩ := rp_tup q1
          obtain rfl := rp_keys rk
          obtain ⟨ps, kvs, rfl, z1, z2, z3⟩ := pairsT_ok s r2 h3
          exact ⟨p :: ps, (k, b, _) :: kvs, rfl, .cons ⟨SqT.of (s _ _ e1), s _ _ e2⟩ z1, by rw [List.map_cons, List.map_cons, z2], .cons q2 z3⟩
def tK (k : List Key) : D := .tup (k.map kD)
theorem mergeT_put {K : PySem.W.Frag} {F : Hp} : ∀ {more : List (List Key × Addr × V)} {kds : List (List Key × D)} {kvs : List (List Key × V)} {ks vs : List D}, more.map (·.1) = kds.map (·.1) → RpL K F (more.map fun p => p.2.2) (kds.map (·.2)) → kvs.map (fun p => D.tup (p.1.map kD)) = ks → RpL K F (kvs.map (·.2)) vs →
    RpO K F (.dT (mergeT kvs more)) (.dct true (putAll ks vs (kds.map fun p => (tK p.1, p.2))).1 (putAll ks vs (kds.map fun p => (tK p.1, p.2))).2)
  | [], [], kvs, ks, vs, _, _, h1, h2 => .dT h1 h2
  | [], _ :: _, _, _, _, h, _, _, _ => by simp at h
  | _ :: _, [], _, _, _, h, _, _, _ => by simp at h
  | (k, b, v) :: more, (k', y) :: kds, kvs, ks, vs, h, r, h1, h2 => by
    simp only [List.map_cons, List.cons.injEq] at h
    obtain ⟨rfl, h⟩ := h
    cases r with
    | cons r1 r2 =>
      subst h1
      obtain ⟨z1, z2⟩ := putK_put (fun k : List Key => D.tup (k.map kD)) beqK_tup k r1 h2
      exact mergeT_put (more := more) (kds := kds) (kvs := putK kvs k v) h r2 z1 z2
def fDictT (d : D) : Option D := (lstD d).bind fun ds => (pairsT ds).map fun kds => (let r := putAll [] [] (kds.map fun p => (tK p.1, p.2)); .dct true r.1 r.2)
theorem co_dictT : CO c (rDictT c.K) (f1 fDictT) := fun F H vs ds z Q s r h k => by
  obtain ⟨d, rfl, h0⟩ := f1_some h
  obtain ⟨es, h1, h2⟩ := Option.bind_eq_some_iff.mp h0
  obtain ⟨kds, h3, rfl⟩ := Option.map_eq_some_iff.mp h2
  obtain rfl := lstD_ok h1
  obtain ⟨v, rfl, r1⟩ := rbl1 r
  obtain ⟨a, xs, rfl, e, rl⟩ := r1.lst s
  obtain ⟨ps, kvs, rfl, z1, z2, z3⟩ := pairsT_ok s rl h3
  exact ⟨a, ps, kvs, rfl, SqL.of e, z1, fun p hp => k p _ F _ (Ext.temp s hp) hp upd_same (none_of s hp) (mergeT_put z2 z3 rfl .nil)⟩
/-- .. keys ints, texts -/
def pairK : D → Option (Key × D)
  | .tup [x, y] => (keyD x).map fun k => (k, y)
  | _ => none
def pairsK : List D → Option (List (Key × D))
  | [] => some []
  | d :: ds => (pairK d).bind fun p => (pairsK ds).map fun r => p :: r
theorem pairsK_ok {K : PySem.W.Frag} {F H : Hp} (s : Same F H) : ∀ {ds : List D} {vs : List V} {kds : List (Key × D)}, RpL K F vs ds → pairsK ds = some kds → ∃ (ps : List Addr) (kvs : List (Key × V)), vs = ps.map V.ref ∧ Paired (fun p (kv : Key × V) => SqT K H p [kV kv.1, kv.2]) ps kvs ∧ kvs.map (·.1) = kds.map (·.1) ∧ RpL K F (kvs.map (·.2)) (kds.map (·.2))
  | [], _, _, r, h => by cases h; cases r; exact ⟨[], [], rfl, .nil, rfl, .nil⟩
  | d :: ds, _, _, r, h => by
    obtain ⟨⟨k, y⟩, h1, h2⟩ := Option.bind_eq_some_iff.mp (show ((pairK d).bind fun p => (pairsK ds).map fun r => p :: r) = some _ from h)
    obtain ⟨kr, h3, rfl⟩ := Option.map_eq_some_iff.mp h2
    cases r with
    | cons r1 r2 =>
      unfold pairK at h1
      split at h1
      · rename_i x y'
        obtain ⟨k', h4, h5⟩ := Option.map_eq_some_iff.mp h1
        cases h5
        obtain ⟨p, xs, rfl, e1, rl⟩ := rp_tup r1
        cases rl with
        | cons q1 rl =>
          cases rl with
          | cons q2 rl =>
            cases rl
            obtain rfl := rp_key (by rw [← keyD_ok h4]; exact q1)
            obtain ⟨ps, kvs, rfl, z1, z2, z3⟩ := pairsK_ok s r2 h3
            exact ⟨p :: ps, (k, _) :: kvs, rfl, .cons (SqT.of (s _ _ e1)) z1, by rw [List.map_cons, List.map_cons, z2], .cons q2 z3⟩
      · cases h1
def fDictK (d : D) : Option D := (lstD d).bind fun ds => (pairsK ds).map fun kds => (let r := putAll [] [] (kds.map fun p => (kD p.1, p.2)); .dct false r.1 r.2)
theorem co_dictK : CO c (fun xs H Q => ∃ (a : Addr) (ps : List Addr) (kvs : List (Key × V)), xs = [.ref a] ∧ SqL c.K H a (ps.map V.ref) ∧ Paired (fun p kv => SqT c.K H p [kV kv.1, kv.2]) ps kvs ∧ ∀ p, H p = none → Q (.ref p) (upd H p (.dK (mergeK [] kvs)))) (f1 fDictK) := fun F H vs ds z Q s r h k => by
  obtain ⟨d, rfl, h0⟩ := f1_some h
  obtain ⟨es, h1, h2⟩ := Option.bind_eq_some_iff.mp h0
  obtain ⟨kds, h3, rfl⟩ := Option.map_eq_some_iff.mp h2
  obtain rfl := lstD_ok h1
  obtain ⟨v, rfl, r1⟩ := rbl1 r
  obtain ⟨a, xs, rfl, e, rl⟩ := r1.lst s
  obtain ⟨ps, kvs, rfl, z1, z2, z3⟩ := pairsK_ok s rl h3
  exact ⟨a, ps, kvs, rfl, SqL.of e, z1, fun p hp => k p _ F _ (Ext.temp s hp) hp upd_same (none_of s hp) (merge_put z2 z3 rfl .nil)⟩
end
end DL

namespace DL
open PySem PySem.Spec L2

section
variable {c : Cc} {ta tb tc : TE} {ma mb mc : M D}
/-! sorted texts -/
def leS (a b : Str) : Prop := a.cps.toList ≤ b.cps.toList
theorem leS_trans {a b d : Str} (h1 : leS a b) (h2 : leS b d) : leS a d := List.le_trans h1 h2
theorem leS_anti {a b : Str} (h1 : leS a b) (h2 : leS b a) : a = b := by
  have := List.le_antisymm h1 h2
  obtain ⟨x⟩ := a
  obtain ⟨y⟩ := b
  congr 1
  exact Array.toList_inj.mp this
theorem rising_pair : ∀ {l : List Str} {a : Str}, PyProof.Rows.risingS a l = true → (a :: l).Pairwise leS
  | [], a, _ => List.pairwise_singleton _ _
  | b :: l, a, h => by
    have h : (!ltCps b.cps.toList a.cps.toList && PyProof.Rows.risingS b l) = true := h
    obtain ⟨h1, h2⟩ := (Bool.and_eq_true _ _).mp h
    have ih := rising_pair h2
    have hab : leS a b := by
      have : ltCps b.cps.toList a.cps.toList = false := by simpa using h1
      rw [PyProof.Rows.ltCps_eq] at this
      exact List.not_lt.mp (of_decide_eq_false this)
    refine List.pairwise_cons.mpr ⟨fun y hy => ?_, ih⟩
    rcases List.mem_cons.mp hy with rfl | hy
    · exact hab
    · exact leS_trans hab ((List.pairwise_cons.mp ih).1 y hy)
theorem sorted_pair {l : List Str} (h : PyProof.Rows.sortedS l = true) : l.Pairwise leS := by
  cases l with
  | nil => exact List.Pairwise.nil
  | cons a l => exact rising_pair h
def insS (i : Str) : List Str → List Str
  | [] => [i]
  | j :: js => if ltCps j.cps.toList i.cps.toList then j :: insS i js else i :: j :: js
def sortS : List Str → List Str
  | [] => []
  | i :: is => insS i (sortS is)
theorem insS_perm (i : Str) : ∀ js, (insS i js).Perm (i :: js)
  | [] => List.Perm.refl _
  | j :: js => by
    unfold insS
    split
    · exact ((insS_perm i js).cons j).trans (List.Perm.swap i j js)
    · exact List.Perm.refl _
theorem sortS_perm : ∀ is, (sortS is).Perm is
  | [] => List.Perm.refl _
  | i :: is => (insS_perm i _).trans ((sortS_perm is).cons i)
theorem insS_sorted (i : Str) : ∀ js : List Str, js.Pairwise leS → (insS i js).Pairwise leS
  | [], _ => List.pairwise_singleton _ _
  | j :: js, h => by
    unfold insS
    obtain ⟨h1, h2⟩ := List.pairwise_cons.mp h
    split
    · rename_i hij
      rw [PyProof.Rows.ltCps_eq] at hij
      have hji : leS j i := List.le_of_lt (of_decide_eq_true hij)
      refine List.pairwise_cons.mpr ⟨fun y hy => ?_, insS_sorted i js h2⟩
      rcases List.mem_cons.mp ((insS_perm i js).mem_iff.mp hy) with rfl | hy
      · exact hji
      · exact h1 y hy
    · rename_i hij
      rw [PyProof.Rows.ltCps_eq] at hij
      have hle : leS i j := List.not_lt.mp (by simpa using hij)
      refine List.pairwise_cons.mpr ⟨fun y hy => ?_, h⟩
      rcases List.mem_cons.mp hy with rfl | hy
      · exact hle
      · exact leS_trans hle (h1 y hy)
theorem sortS_sorted : ∀ is, (sortS is).Pairwise leS
  | [] => List.Pairwise.nil
  | i :: is => insS_sorted i _ (sortS_sorted is)
theorem sortS_uniq : ∀ {a b : List Str}, a.Perm b → a.Pairwise leS → b.Pairwise leS → a = b
  | [], b, p, _, _ => (List.nil_perm.mp p).symm
  | x :: a, b, p, ha, hb => by
    cases b with
    | nil => exact absurd p.length_eq (by simp)
    | cons y b =>
      obtain ⟨h1, h2⟩ := List.pairwise_cons.mp ha
      obtain ⟨h3, h4⟩ := List.pairwise_cons.mp hb
      have e : x = y := by
        have m1 : x ∈ y :: b := p.mem_iff.mp List.mem_cons_self
        have m2 : y ∈ x :: a := p.mem_iff.mpr List.mem_cons_self
        rcases List.mem_cons.mp m1 with e | m1
        · exact e
        rcases List.mem_cons.mp m2 with e | m2
        · exact e.symm
        exact leS_anti (h1 y m2) (h3 x m1)
      subst e
      rw [sortS_uniq (List.Perm.cons_inv p) h2 h4]
def strsD : List D → Option (List Str)
  | [] => some []
  | .str i :: ds => (strsD ds).map fun is => i :: is
  | _ :: _ => none
theorem strs_keys : ∀ {kvs : List (Key × V)} {is : List Str}, strsD (kvs.map fun p => kD p.1) = some is → kvs.map (·.1) = is.map Sum.inr
  | [], b, h => by cases h; rfl
  | (.inr i, v) :: k, b, h => by
    obtain ⟨us, h3, rfl⟩ := Option.map_eq_some_iff.mp (show (strsD (k.map fun p => kD p.1)).map (fun is => i :: is) = some b from h)
    rw [List.map_cons, strs_keys h3]; rfl
  | (.inl x, v) :: k, b, h => by cases h
theorem rpl_strs {K : PySem.W.Frag} {F : Hp} : ∀ is : List Str, RpL K F (is.map V.str) (is.map D.str)
  | [] => .nil
  | i :: is => .cons (.str i) (rpl_strs is)
def fSortedKS (d : D) : Option D := match d with
  | .dct false ks _ => (strsD ks).bind fun is => if decide (is.length < 64) then some (.lst ((sortS is).map D.str)) else none
  | _ => none
theorem co_sortedKS : CO c (fun xs H Q => ∃ (a : Addr) (kvs : List (Key × V)) (ks : List Str), xs = [.ref a] ∧ Rd H a (.dK kvs) ∧ kvs.map (·.1) = ks.map Sum.inr ∧ ks.length < 64 ∧ ∀ (ys : List Str) (p : Addr), ys.Perm ks → PyProof.Rows.sortedS ys = true → H p = none → Q (.ref p) (upd H p (.lst (ys.map V.str)))) (f1 fSortedKS) := fun F H vs ds z Q s r h k => by
  obtain ⟨d, rfl, h0⟩ := f1_some h
  clear h
  obtain ⟨v, rfl, r1⟩ := rbl1 r
  unfold fSortedKS at h0
  split at h0
  · obtain ⟨is, h2, h3⟩ := Option.bind_eq_some_iff.mp h0
    split at h3
    · rename_i hl
      cases h3
      obtain ⟨a, kvs, rfl, e, e2, rl⟩ := r1.dK s
      subst e2
      refine ⟨a, kvs, is, rfl, .inl e, strs_keys h2, of_decide_eq_true hl, fun ns' p pm sr hp => ?_⟩
      obtain rfl := sortS_uniq (pm.trans (sortS_perm is).symm) (sorted_pair sr) (sortS_sorted is)
      exact k p _ F _ (Ext.temp s hp) hp upd_same (none_of s hp) (.lst (rpl_strs _))
    · cases h3
  · cases h0
/-! texts and ints -/
def fStr (d : D) : Option D := match d with
  | .int i => if decide (i.natAbs.log2 < 1920) then some (.str (Str.ofString (toString i))) else none
  | _ => none
theorem cb_strI : CB c (fun xs H Q => ∃ i, xs = [V.int i] ∧ i.natAbs.log2 < 1920 ∧ Q (V.str (Str.ofString (toString i))) H) (f1 fStr) := fun F H vs ds z Q s r h k => by
  obtain ⟨d, rfl, h0⟩ := f1_some h
  clear h
  obtain ⟨v, rfl, r1⟩ := rbl1 r
  unfold fStr at h0
  split at h0
  · split at h0
    · rename_i hl
      cases h0
      obtain rfl := rp_int (r1.h s)
      exact ⟨_, rfl, of_decide_eq_true hl, k _ F H (Ext.refl s) (.str _)⟩
    · cases h0
  · cases h0
def fInt (d : D) : Option D := match d with
  | .str a => if decide (a.length ≤ 640) then (intText? a).map D.int else none
  | _ => none
theorem cb_intS : CB c (fun xs H Q => ∃ a n, xs = [V.str a] ∧ intText? a = some n ∧ a.length ≤ 640 ∧ Q (V.int n) H) (f1 fInt) := fun F H vs ds z Q s r h k => by
  obtain ⟨d, rfl, h0⟩ := f1_some h
  clear h
  obtain ⟨v, rfl, r1⟩ := rbl1 r
  unfold fInt at h0
  split at h0
  · split at h0
    · rename_i hl
      obtain ⟨n, h1, rfl⟩ := Option.map_eq_some_iff.mp h0
      obtain rfl := rp_str (r1.h s)
      exact ⟨_, n, rfl, h1, of_decide_eq_true hl, k _ F H (Ext.refl s) (.int _)⟩
    · cases h0
  · cases h0
/-- int(x), x an int or a bool -/
def fInt1 (d : D) : Option D := match d with
  | .int i => some (.int i)
  | .bl b => some (.int (if b then 1 else 0))
  | _ => none
theorem cb_int1 : CB c (fun xs H Q => (∃ i, xs = [V.int i] ∧ Q (V.int i) H) ∨ ∃ k, xs = [V.bl k] ∧ Q (V.int (if k then 1 else 0)) H) (f1 fInt1) := fun F H vs ds z Q s r h k => by
  obtain ⟨d, rfl, h0⟩ := f1_some h
  clear h
  obtain ⟨v, rfl, r1⟩ := rbl1 r
  unfold fInt1 at h0
  split at h0
  · cases h0
    obtain rfl := rp_int (r1.h s)
    exact .inl ⟨_, rfl, k _ F H (Ext.refl s) (.int _)⟩
  · cases h0
    obtain rfl := rp_bl (r1.h s)
    exact .inr ⟨_, rfl, k _ F H (Ext.refl s) (.int _)⟩
  · cases h0
/-- a + b, texts -/
def fCatS (d e : D) : Option D := match d, e with
  | .str a, .str b => if decide (a.length + b.length ≤ sizeLine) then some (.str (a ++ b)) else none
  | _, _ => none
theorem op_catS : OpB c (fun x y H Q => ∃ i j, x = V.str i ∧ y = V.str j ∧ i.length + j.length ≤ sizeLine ∧ Q (V.str (i ++ j)) H) fCatS := fun F H x y d e z Q s r1 r2 h k => by
  unfold fCatS at h
  split at h
  · split at h
    · rename_i hl
      cases h
      obtain rfl := rp_str r1
      obtain rfl := rp_str r2
      exact ⟨_, _, rfl, rfl, of_decide_eq_true hl, k _ F H (Ext.refl s) (.str _)⟩
    · cases h
  · cases h
/-- s[i:] -/
def fCutS (d e : D) : Option D := match d, e with
  | .str a, .int i => if decide (a.length ≤ sizeLine) then some (.str (cutS a (some i) none)) else none
  | _, _ => none
theorem ex_cutS (ha : Ex c ta ma) (hb : Ex c tb mb) : Ex c (tSl rSlS ta (tPart tb) (fun _ H Q => Q none H)) (m2 fCutS ma mb) := fun δ σ F H Q z S e k => by
  obtain ⟨d1, d2, e1, e2, e3⟩ := m2_some e
  unfold fCutS at e3
  split at e3
  · split at e3
    · rename_i hl
      cases e3
      refine ha δ σ F H _ _ S e1 fun x F1 H1 x1 r1 => hb δ σ F1 H1 _ _ (S.up x1) e2 fun y F2 H2 x2 r2 => ?_
      obtain rfl := rp_str r1
      obtain rfl := rp_int r2
      exact ⟨_, rfl, _, rfl, of_decide_eq_true hl, k _ F2 H2 (x1.trans x2) (.str _)⟩
    · cases e3
  · cases e3
/-! tuple(range(..)), list(range(..)) -/
def rgD (a b : Int) : List D := (List.range (b - a).toNat).map fun (i : Nat) => D.int (a + (i : Nat))
theorem rpl_rg {K : PySem.W.Frag} {F : Hp} (a b : Int) : RpL K F (rgV a b) (rgD a b) := by
  unfold rgV rgD
  generalize List.range (b - a).toNat = l
  induction l with
  | nil => exact .nil
  | cons i l ih => exact .cons (.int _) ih
def okRg (a b : Int) : Bool := decide (-(2 ^ 62) ≤ a) && decide (a < 2 ^ 62) && decide (-(2 ^ 62) ≤ b) && decide (b < 2 ^ 62) && decide ((b - a).toNat ≤ 2 ^ 24)
theorem okRg_ok {a b : Int} (h : okRg a b = true) : RgOk a b := by
  unfold okRg at h
  simp only [Bool.and_eq_true, decide_eq_true_eq] at h
  exact ⟨h.1.1.1.1, h.1.1.1.2, h.1.1.2, h.1.2, h.2⟩
def fTupR (d : D) : Option D := match d with
  | .int n => if okRg 0 n then some (.tup (rgD 0 n)) else none
  | _ => none
def mF (f : D → Option D) (m : M D) : M D := fun δ => (m δ).bind f
theorem ex_tupRg (ha : Ex c ta ma) : Ex c (tTupRg (tRg1 ta)) (mF fTupR ma) := fun δ σ F H Q z S e k => by
  obtain ⟨d, e1, e2⟩ := Option.bind_eq_some_iff.mp (show (ma δ).bind fTupR = some z from e)
  unfold fTupR at e2
  split at e2
  · split at e2
    · rename_i n h
      cases e2
      refine ha δ σ F H _ _ S e1 fun x F1 H1 x1 r1 => ?_
      obtain rfl := rp_int r1
      refine ⟨_, rfl, okRg_ok h, fun q hq => ?_⟩
      have x2 : Ext F1 H1 (upd F1 q (.tup (rgV 0 n))) (upd H1 q (.tup (rgV 0 n))) := Ext.laid x1.s hq
      exact k _ _ _ (x1.trans x2) (.obj upd_same (.tup (rpl_rg _ _)))
    · cases e2
  · cases e2
/-! len(set(t)) -/
def fLenSet (d : D) : Option D := (tupD d).bind fun ds => (intsD ds).bind fun is => if decide (is.length + 1 < scanBound) then some (.int ((diffI is).length : Nat)) else none
theorem ex_lenSet (ha : Ex c ta ma) : Ex c (tCB rLenS (tCons (tCB (rSetT c.K) (tCons ta tNil)) tNil)) (mF fLenSet ma) := fun δ σ F H Q z S e k => by
  obtain ⟨d, e1, e2⟩ := Option.bind_eq_some_iff.mp (show (ma δ).bind fLenSet = some z from e)
  obtain ⟨ds, e3, e4⟩ := Option.bind_eq_some_iff.mp e2
  obtain ⟨is, e5, e6⟩ := Option.bind_eq_some_iff.mp e4
  split at e6
  · rename_i hl
    cases e6
    refine ha δ σ F H _ _ S e1 fun x F1 H1 x1 r1 => ?_
    obtain ⟨a, xs, rfl, h1, rl⟩ := tupD_ok r1 e3
    obtain ⟨rfl, _⟩ := ints_ok rl e5
    refine ⟨a, is, rfl, same_seqT x1.s h1, of_decide_eq_true hl, fun p hp => ?_⟩
    exact ⟨p, _, _, rfl, upd_same, k _ F1 _ (x1.trans (Ext.temp x1.s hp)) (.int _)⟩
  · cases e6
/-! l.index(i) -/
def fLIdx (d e : D) : Option D := match d, e with
  | .lst ds, .int i => (intsD ds).bind fun is => if is.contains i then some (.int (is.idxOf i : Nat)) else none
  | _, _ => none
theorem ex_lidx (ha : Ex c ta ma) (hb : Ex c tb mb) : Ex c (tBM c.K "list" (rIndex c.K) ta (tCons tb tNil)) (m2 fLIdx ma mb) := fun δ σ F H Q z S e k => by
  obtain ⟨d1, d2, e1, e2, e3⟩ := m2_some e
  unfold fLIdx at e3
  split at e3
  · rename_i ds i
    obtain ⟨is, e4, e5⟩ := Option.bind_eq_some_iff.mp e3
    split at e5
    · rename_i hi
      cases e5
      have hi : i ∈ is := by simpa using hi
      refine ha δ σ F H _ _ S e1 fun x F1 H1 x1 r1 => ?_
      obtain ⟨a, xs, rfl, h1, rl⟩ := rp_lst r1
      refine ⟨.inl ⟨rfl, xs, SqL.of (x1.s _ _ h1)⟩, ?_⟩
      refine hb δ σ F1 H1 _ _ (S.up x1) e2 fun y F2 H2 x2 r2 => ?_
      obtain rfl := rp_int r2
      obtain ⟨rfl, _⟩ := ints_ok rl e4
      refine ⟨a, is.map V.int, .int i, is.idxOf i, .int i, rfl, rfl, SqL.of (x2.s _ _ (x2.f _ _ h1)), rfl, ?_, ?_, ?_, fun m z' hm hz => ?_, k _ F2 H2 (x1.trans x2) (.int _)⟩
      · rw [List.all_map]; exact List.all_eq_true.mpr fun _ _ => rfl
      · have hlt : is.idxOf i < is.length := List.findIdx_lt_length_of_exists ⟨i, hi, by simp⟩
        have hg : is[is.idxOf i] = i := by simpa using (List.findIdx_getElem (xs := is) (p := (· == i)) (w := hlt))
        rw [List.getElem?_map, List.getElem?_eq_getElem hlt, hg]; rfl
      · show (i == i) = true
        simp
      · rw [List.getElem?_map] at hz
        obtain ⟨j, hj, rfl⟩ := Option.map_eq_some_iff.mp hz
        show (j == i) = false
        have := List.not_of_lt_findIdx (xs := is) (p := (· == i)) hm
        obtain ⟨hlt, he⟩ := List.getElem?_eq_some_iff.mp hj
        rw [← he]
        simpa using this
    · cases e5
  · cases e3
/-! a, b = (e1, e2), both new things -/
def mOwn2 (i j : Nat) (ma mb : M D) : M Fl := fun δ => (ma δ).bind fun d => (mb δ).bind fun e => if isOwnD d && isOwnD e then some (.nx ((δ.set i (SV.own d)).set j (SV.own e))) else none
theorem sx_own2 (i j : Nat) (ha : Ox c ta ma) (hb : Ox c tb mb) : Sx c (tPar i j (tCons ta (tCons tb tNil))) (mOwn2 i j ma mb) := fun δ σ F H En fl S e k => by
  obtain ⟨d, e1, f1⟩ := Option.bind_eq_some_iff.mp (show (ma δ).bind _ = some fl from e)
  obtain ⟨d2, e2, f2⟩ := Option.bind_eq_some_iff.mp f1
  split at f2
  · rename_i hd
    cases f2
    obtain ⟨q1, q2⟩ := (Bool.and_eq_true _ _).mp hd
    refine ha δ σ F H _ d S e1 fun a o F1 H1 x1 hn ha hf r => ?_
    refine hb δ σ F1 H1 _ d2 (S.up x1) e2 fun a2 o2 F2 H2 x2 hn2 ha2 hf2 r2 => ?_
    exact ⟨_, _, rfl, k _ F2 H2 ((S.setOwn x1 hn ha hf r q1).setOwn x2 hn2 ha2 hf2 r2 q2) (x1.f.trans x2.f)⟩
  · cases f2
end
end DL

namespace DL
open PySem PySem.Spec L2
theorem body_end {t : TS} {m : M Fl} {N : List Str} {n : Nat} {K : PySem.W.Frag} {vs : List V} {H : Hp} {Q : VK} {E : XK} (h : spD K n (runD N.length m) vs H Q E) (sx : ∀ F0 H0, Sx ⟨K, F0, H0⟩ t m) :
    t { nx := fun _ H' => Q .non H', rt := Q } (L2.start N vs) H := by
  obtain ⟨F, ds, d, s, rl, hl, e, k⟩ := h
  unfold runD at e
  cases q : m (initD N.length ds) with
  | none => rw [q] at e; cases e
  | some fl =>
    rw [q] at e
    refine sx F H (initD N.length ds) _ F H _ fl (sr_start s rl) q ?_
    cases fl with
    | nx δ =>
      cases e
      exact fun σ F' H' S _ => k _ F' H' S.ext .non
    | rt d' =>
      cases e
      exact fun v F' H' x r => k v F' H' x r
    | bk _ => cases e
    | ct _ => cases e
/-- a statement that is never reached -/
theorem ps_no {X : Cx} {st : Stmt} : PS X st (fun _ _ _ => False) := ⟨fun _ _ _ _ _ _ h => h.elim⟩
end DL

/-! readings by name -/
namespace DL
open PySem PySem.Spec L2
def rLenQ (K : PySem.W.Frag) : List V → Hp → VK → Prop := fun xs H Q => ∃ p ys, xs = [.ref p] ∧ (SqL K H p ys ∨ SqT K H p ys) ∧ Q (.int ys.length) H
def rTupQ (K : PySem.W.Frag) : List V → Hp → VK → Prop := fun xs H Q => ∃ p ys, xs = [.ref p] ∧ ((SqL K H p ys ∧ ∀ l, H l = none → Q (.ref l) (upd H l (.tup ys))) ∨ (SqT K H p ys ∧ Q (.ref p) H))
def rTupF (K : PySem.W.Frag) : List V → Hp → VK → Prop := fun xs H Q => ∃ p ys, xs = [.ref p] ∧ SqL K H p ys ∧ ∀ l o, H l = none → o.cls = .type "tuple" → o.dict = none → Q (.ref l) (upd H l (.frz o (.tup ys)))
def rLstQ (K : PySem.W.Frag) : List V → Hp → VK → Prop := fun xs H Q => ∃ p ys, xs = [.ref p] ∧ (SqL K H p ys ∨ SqT K H p ys) ∧ ∀ l, H l = none → Q (.ref l) (upd H l (.lst ys))
def rSortKI : List V → Hp → VK → Prop := fun xs H Q => ∃ (a : Addr) (kvs : List (Key × V)) (ks : List Int), xs = [.ref a] ∧ Rd H a (.dK kvs) ∧ kvs.map (·.1) = ks.map Sum.inl ∧ ks.length < 64 ∧ ∀ (ys : List Int) (p : Addr), ys.Perm ks → ys.Pairwise (· ≤ ·) → H p = none → Q (.ref p) (upd H p (.lst (ys.map V.int)))
def rSortKS : List V → Hp → VK → Prop := fun xs H Q => ∃ (a : Addr) (kvs : List (Key × V)) (ks : List Str), xs = [.ref a] ∧ Rd H a (.dK kvs) ∧ kvs.map (·.1) = ks.map Sum.inr ∧ ks.length < 64 ∧ ∀ (ys : List Str) (p : Addr), ys.Perm ks → PyProof.Rows.sortedS ys = true → H p = none → Q (.ref p) (upd H p (.lst (ys.map V.str)))
def rDictK (K : PySem.W.Frag) : List V → Hp → VK → Prop := fun xs H Q => ∃ (a : Addr) (ps : List Addr) (kvs : List (Key × V)), xs = [.ref a] ∧ SqL K H a (ps.map V.ref) ∧ Paired (fun p kv => SqT K H p [kV kv.1, kv.2]) ps kvs ∧ ∀ p, H p = none → Q (.ref p) (upd H p (.dK (mergeK [] kvs)))
def rStrI : List V → Hp → VK → Prop := fun xs H Q => ∃ i, xs = [V.int i] ∧ i.natAbs.log2 < 1920 ∧ Q (V.str (Str.ofString (toString i))) H
def rIntS : List V → Hp → VK → Prop := fun xs H Q => ∃ a n, xs = [V.str a] ∧ intText? a = some n ∧ a.length ≤ 640 ∧ Q (V.int n) H
def rInt1 : List V → Hp → VK → Prop := fun xs H Q => (∃ i, xs = [V.int i] ∧ Q (V.int i) H) ∨ ∃ k, xs = [V.bl k] ∧ Q (V.int (if k then 1 else 0)) H
def rCatS : R2 := fun x y H Q => ∃ i j, x = V.str i ∧ y = V.str j ∧ i.length + j.length ≤ sizeLine ∧ Q (V.str (i ++ j)) H
section
variable {X : Cx}
theorem hLenQ : CallR X (.builtin "len") (rLenQ X.K) := call_len_seq
theorem hLenT : CallR X (.builtin "len") rLenT := call_len_dT
theorem hTupQ : CallR X (.type "tuple") (rTupQ X.K) := call_tuple_of
theorem hTupF : CallR X (.type "tuple") (rTupF X.K) := call_tupleF
theorem hLstQ : CallR X (.type "list") (rLstQ X.K) := call_list_of
theorem hSortKI (hc : X.calm = true) : CallR X (.builtin "sorted") rSortKI := call_sortedDI hc
theorem hSortKS (hc : X.calm = true) : CallR X (.builtin "sorted") rSortKS := call_sortedD hc
theorem hDictK (hc : X.calm = true) : CallR X (.type "dict") (rDictK X.K) := call_dictP hc
theorem hStrI : CallR X (.type "str") rStrI := call_str_int
theorem hIntS : CallR X (.type "int") rIntS := call_int_str
theorem hInt1 : CallR X (.type "int") rInt1 := call_int1
theorem hCatS : OpR X (binaryOp .Add) rCatS := op_add_str
end
section
variable {c : Cc}
theorem bLenQ : CB c (rLenQ c.K) (f1 fLen) := cb_len
theorem bTupQ : CB c (rTupQ c.K) (f1 fun d => (lstD d).map D.tup) := cb_tuple
theorem bTupF : CB c (rTupF c.K) (f1 fun d => (lstD d).map D.ftup) := cb_tupleF
theorem bLstQ : CO c (rLstQ c.K) (f1 fun d => (seqD d).map D.lst) := co_list
theorem bSortKI : CO c rSortKI (f1 fSortedKI) := co_sortedKI
theorem bSortKS : CO c rSortKS (f1 fSortedKS) := co_sortedKS
theorem bDictK : CO c (rDictK c.K) (f1 fDictK) := co_dictK
theorem bStrI : CB c rStrI (f1 fStr) := cb_strI
theorem bIntS : CB c rIntS (f1 fInt) := cb_intS
theorem bInt1 : CB c rInt1 (f1 fInt1) := cb_int1
theorem bCatS : OpB c rCatS fCatS := op_catS
end
theorem hu65 {k : Nat} {A : Around} (h : Room k A) : A.units + 65 < cLine := by
  have := h.un
  omega
theorem hu64 {k : Nat} {A : Around} (h : Room k A) : A.units + 64 < cLine := Nat.lt_of_succ_lt (hu65 h)
theorem hu1 {k : Nat} {A : Around} (h : Room k A) : A.units + 1 < cLine := Nat.lt_of_le_of_lt (by omega) (hu65 h)
theorem hu0 {k : Nat} {A : Around} (h : Room k A) : A.units < cLine := Nat.lt_of_le_of_lt (by omega) (hu65 h)
end DL

namespace DL
open PySem PySem.Spec L2
/-- a def that the top has written and that keeps a promise -/
structure Own (P : Program) (w : World) (K : PySem.W.Frag) (mg : Str → Option Value) (base : Heap) (lvl : Nat) (x : Str) (n : Nat) (r : List D → Option D) where
  f : Addr
  fd : FuncData
  ps : List Str
  F : FnOk P w K mg base CX0 lvl f fd ps (spD K n r)
  g : mg x = some (.ref f)
  k : PySem.W.keepIn K (.ref f) = true
  b : Binds K fd ps []
/-- a property of a class -/
structure OwnProp (P : Program) (w : World) (K : PySem.W.Frag) (mg : Str → Option Value) (base : Heap) (lvl : Nat) (C : Addr) (x : Str) (r : List D → Option D) where
  p : Addr
  f : Addr
  fd : FuncData
  ps : List Str
  F : FnOk P w K mg base CX0 lvl f fd ps (spD K 1 r)
  h : PropOf K C x p f
  c : Cls K C
  b : Binds K fd ps []
def mProp (C : Addr) (r : List D → Option D) (ma : M D) : M D := fun δ => (ma δ).bind fun d => match d with
    | .ins C' ns vs => if C' = C then r [.ins C' ns vs] else none
    | _ => none
/-- a tuple of ints that the top has written -/
def KTup (K : PySem.W.Frag) (a : Addr) (is : List Int) : Prop := ∀ H, SqT K H a (is.map V.int)
def ktupD (is : List Int) : D := .ktup (is.map D.int)
theorem ktup_rp {c : Cc} {a : Addr} {is : List Int} (h : KTup c.K a is) : ∀ F, Rp c.K F (.ref a) (ktupD is) := fun F => .tupK h (rpl_ints is)
end DL
namespace DL
open PySem PySem.Spec L2
section
variable {c : Cc} {ta : TE} {ma : M D}
def fNeg (d : D) : Option D := match d with
  | .int i => some (.int (-i))
  | _ => none
theorem ex_neg (ha : Ex c ta ma) : Ex c (tUn (rU fun i => .int (-i)) ta) (mF fNeg ma) := fun δ σ F H Q z S e k => by
  obtain ⟨d, e1, e2⟩ := Option.bind_eq_some_iff.mp (show (ma δ).bind fNeg = some z from e)
  unfold fNeg at e2
  split at e2
  · cases e2
    refine ha δ σ F H _ _ S e1 fun x F1 H1 x1 r1 => ?_
    obtain rfl := rp_int r1
    exact ⟨_, rfl, k _ F1 H1 x1 (.int _)⟩
  · cases e2
end
end DL
namespace DL
open PySem PySem.Spec L2
section
variable {c : Cc}
/-- (i, j) as a comprehension's target -/
theorem gw_tup2 (i j : Nat) (hij : i ≠ j := by decide) : Gw c (gTup c.K 2 (gCons (gName i) (gCons (gName j) gNil))) (stTup 2 (stCons (stN i) (stCons (stN j) stNil))) [i, j] := fun δ δ' σ F H Q v d S r e k => by
  obtain ⟨ds, e1, e2⟩ := Option.bind_eq_some_iff.mp (show (tupD d).bind _ = some δ' from e)
  split at e2
  · rename_i hl
    match ds, hl with
    | [d1, d2], _ =>
      obtain ⟨a, xs, rfl, h1, rl⟩ := tupD_ok r e1
      cases rl with
      | cons r1 rl =>
        cases rl with
        | cons r2 rl =>
          cases rl
          have e2 : some ((δ.set i (SV.fro d1)).set j (SV.fro d2)) = some δ' := e2
          cases e2
          refine ⟨a, _, rfl, same_seqT S.sFH h1, rfl, _, _, rfl, _, _, rfl, rfl, ?_⟩
          refine k _ ((S.set r1).set r2) ?_
          show (((((σ.set j none).set i none).set i (some _)).set j (some _)).set j none).set i none = (σ.set j none).set i none
          refine List.ext_getElem? fun n => ?_
          by_cases h1 : i = n <;> by_cases h2 : j = n <;> simp [List.getElem?_set, h1, h2]
  · cases e2
end
end DL
namespace DL
open PySem PySem.Spec L2
section
variable {c : Cc}
/-- tuple(t), t a tuple: t itself -/
def fTupT (d : D) : Option D := match d with
  | .tup _ => some d
  | .ktup _ => some d
  | _ => none
theorem bTupT : CB c (rTupQ c.K) (f1 fTupT) := fun F H vs ds z Q s r h k => by
  obtain ⟨d, rfl, h0⟩ := f1_some h
  clear h
  obtain ⟨v, rfl, r1⟩ := rbl1 r
  unfold fTupT at h0
  split at h0
  · cases h0
    rcases r1 with r1 | ⟨a, o, rfl, e, r1⟩
    · obtain ⟨a, xs, rfl, e, rl⟩ := rp_tup r1
      exact ⟨a, xs, rfl, .inr ⟨SqT.of (s _ _ e), k _ F H (Ext.refl s) r1⟩⟩
    · cases r1 with
      | tup rl =>
        obtain ⟨F', x, e'⟩ := Ext.tup s e
        exact ⟨a, _, rfl, .inr ⟨SqT.of e, k _ F' H x (.obj e' (.tup (rl.mono x.f)))⟩⟩
  · cases h0
    rcases r1 with r1 | ⟨a, o, rfl, e, r1⟩
    · obtain ⟨a, xs, rfl, e, rl⟩ := rp_ktup r1
      exact ⟨a, xs, rfl, .inr ⟨same_seqT s e, k _ F H (Ext.refl s) r1⟩⟩
    · cases r1
  · cases h0
end
end DL
namespace DL
open PySem PySem.Spec L2
section
variable {c : Cc} {ta tb : TE} {ma mb : M D}
/-- a, b = (e1, e2), the first a new thing that is changed later -/
def mOwnX (i j : Nat) (ma mb : M D) : M Fl := fun δ => (ma δ).bind fun d => (mb δ).bind fun e => if isOwnD d then some (.nx ((δ.set i (SV.own d)).set j (SV.fro e))) else none
theorem sx_ownX (i j : Nat) (ha : Ox c ta ma) (hb : Ex c tb mb) : Sx c (tPar i j (tCons ta (tCons tb tNil))) (mOwnX i j ma mb) := fun δ σ F H En fl S e k => by
  obtain ⟨d, e1, f1⟩ := Option.bind_eq_some_iff.mp (show (ma δ).bind _ = some fl from e)
  obtain ⟨d2, e2, f2⟩ := Option.bind_eq_some_iff.mp f1
  split at f2
  · rename_i hd
    cases f2
    refine ha δ σ F H _ d S e1 fun a o F1 H1 x1 hn ha hf r => ?_
    refine hb δ σ F1 H1 _ d2 (S.up x1) e2 fun v F2 H2 x2 r2 => ?_
    exact ⟨_, _, rfl, k _ F2 H2 (((S.setOwn x1 hn ha hf r hd).up x2).set r2) (x1.f.trans x2.f)⟩
  · cases f2
end
end DL

/-! instances that are made: self is an own thing in a slot whose address stays -/
namespace DL
open PySem PySem.Spec L2
def hideH (p : Addr) (H : Hp) : Hp := fun b => if b = p then none else H b
theorem hide_ne {p b : Addr} {H : Hp} {o : HO} (h : hideH p H b = some o) : b ≠ p ∧ H b = some o := by
  unfold hideH at h
  split at h
  · cases h
  · rename_i hb; exact ⟨hb, h⟩
theorem hide_of {p b : Addr} {H : Hp} {o : HO} (hb : b ≠ p) (h : H b = some o) : hideH p H b = some o := by
  unfold hideH; rw [if_neg hb]; exact h
theorem hide_same {p : Addr} {H : Hp} : hideH p H p = none := by unfold hideH; rw [if_pos rfl]
/-- a method that settles a new instance: one more argument; the instance has no fields before -/
def spSelf (K : PySem.W.Frag) (C : Addr) (r : D → Option D) : Sp := fun vs H Q _ => ∃ (F : Hp) (p dx : Addr) (v : V) (d z : D), Same F H ∧ F p = none ∧ H p = some (.ins C dx []) ∧ vs = [.ref p, v] ∧ Rp K F v d ∧ r d = some z ∧
  ∀ F' H' o, Ext F (hideH p H) F' H' → F' p = none → H' p = some o → RpO K F' o z → Q .non H'
theorem spSelf_len {K : PySem.W.Frag} {C : Addr} {r : D → Option D} {vs : List V} {H : Hp} {Q : VK} {E : XK} (h : spSelf K C r vs H Q E) : vs.length = 2 := by
  obtain ⟨F, p, dx, v, d, z, _, _, _, rfl, _⟩ := h
  rfl
def initS (n : Nat) (C : Addr) (d : D) : DS := SV.own (.ins C [] []) :: SV.fro d :: List.replicate (n - 2) SV.unk
theorem unk_get {n i : Nat} {s : SV} (h : (List.replicate n SV.unk)[i]? = some s) : s = SV.unk := by
  have := List.mem_of_getElem? h
  exact (List.mem_replicate.mp this).2
theorem sr_self {K : PySem.W.Frag} {F H : Hp} {N : List Str} {p dx C : Addr} {v : V} {d : D} (s : Same F H) (hF : F p = none) (hp : H p = some (.ins C dx [])) (r : Rp K F v d) : SR K F (hideH p H) F H (L2.start N [.ref p, v]) (initS N.length C d) where
  ext := ⟨fun _ _ e => e, fun b o e => (hide_ne e).2, s, fun _ _ e _ _ => e⟩
  len := by
    unfold L2.start initS
    simp only [List.map_cons, List.map_nil, List.length_append, List.length_cons, List.length_nil, List.length_replicate]
    omega
  fro := fun i e h => by
    match i, h with
    | 0, h => simp [initS] at h
    | 1, h =>
      simp [initS] at h; subst h
      exact ⟨v, by unfold L2.start; simp, r⟩
    | i + 2, h => simp [initS] at h; cases unk_get h
  own := fun i e h => by
    match i, h with
    | 0, h =>
      simp [initS] at h; subst h
      exact ⟨p, _, by unfold L2.start; simp, hp, hF, hide_same, .ins rfl .nil⟩
    | 1, h => simp [initS] at h
    | i + 2, h => simp [initS] at h; cases unk_get h
  nt := fun i e h => by
    match i, h with
    | 0, h => simp [initS] at h; subst h; rfl
    | 1, h => simp [initS] at h
    | i + 2, h => simp [initS] at h; cases unk_get h
  dis := fun i j a e e' h1 h2 _ _ => by
    match i, j, h1, h2 with
    | 0, 0, _, _ => rfl
    | 0, 1, _, h => simp [initS] at h
    | 0, j + 2, _, h => simp [initS] at h; cases unk_get h
    | 1, _, h, _ => simp [initS] at h
    | i + 2, _, h, _ => simp [initS] at h; cases unk_get h
/-- statements that keep slot i at p -/
def FlP (c : Cc) (F : Hp) (En : Ends) (i : Nat) (p : Addr) : Fl → Prop
  | .nx δ => ∀ σ' F' H', SR c.K c.F0 c.H0 F' H' σ' δ → Same F F' → σ'[i]? = some (some (.ref p)) → En.nx σ' H'
  | _ => False
def SxP (c : Cc) (i : Nat) (t : TS) (m : M Fl) : Prop := ∀ (p : Addr) (δ : DS) (σ : St) (F H : Hp) (En : Ends) (fl : Fl), SR c.K c.F0 c.H0 F H σ δ → σ[i]? = some (some (.ref p)) → m δ = some fl → FlP c F En i p fl → t En σ H
section
variable {c : Cc} {ta tb : TE} {ma mb : M D} {i : Nat}
theorem sp_next : SxP c i tNext mNext := fun p δ σ F H En fl S hp e k => by
  cases e
  exact k σ F H S (Same.refl F) hp
theorem sp_seq {t u : TS} {m n : M Fl} (h1 : SxP c i t m) (h2 : SxP c i u n) : SxP c i (tSeq t u) (mSeq m n) := fun p δ σ F H En fl S hp e k => by
  unfold mSeq at e
  refine h1 p δ σ F H _ ((m δ).getD (.rt .non)) S hp ?_ ?_
  · cases q : m δ with
    | none => rw [q] at e; cases e
    | some f => rfl
  · cases q : m δ with
    | none => rw [q] at e; cases e
    | some f =>
      rw [q] at e
      cases f with
      | nx δ1 =>
        exact fun σ' F' H' S' s' hp' => h2 p δ1 σ' F' H' En fl S' hp' e (by
          cases fl with
          | nx δ2 => exact fun σ2 F2 H2 S2 s2 hp2 => k σ2 F2 H2 S2 (s'.trans s2) hp2
          | _ => exact k)
      | rt d =>
        have e : some (Fl.rt d) = some fl := e
        cases e; exact k
      | bk d =>
        have e : some (Fl.bk d) = some fl := e
        cases e; exact k
      | ct d =>
        have e : some (Fl.ct d) = some fl := e
        cases e; exact k
theorem sp_own (j : Nat) (hj : j ≠ i := by decide) (h : Ox c ta ma) : SxP c i (tAsg ta (gName j)) (mOwn j ma) := fun p δ σ F H En fl S hp e k => by
  obtain ⟨d, e1, e2⟩ := Option.bind_eq_some_iff.mp (show (ma δ).bind (fun d => if isOwnD d then some (Fl.nx (δ.set j (SV.own d))) else none) = some fl from e)
  split at e2
  · rename_i hd
    cases e2
    refine h δ σ F H _ d S e1 fun a o F' H' x hn ha hf r => ?_
    exact k _ F' H' (S.setOwn x hn ha hf r hd) x.f (by rw [List.getElem?_set_ne hj]; exact hp)
  · cases e2
/-- fields -/
def fput (f : Str) (y : D) : List Str → List D → List Str × List D
  | g :: ns, v :: vs => if g = f then (f :: ns, y :: vs) else (g :: (fput f y ns vs).1, v :: (fput f y ns vs).2)
  | _, _ => ([f], [y])
theorem fput_ok {K : PySem.W.Frag} {F : Hp} {f : Str} {w : V} {y : D} (r : Rp K F w y) : ∀ {fs : List (Str × V)} {vs : List D}, RpL K F (fs.map (·.2)) vs → (putF f w fs).map (·.1) = (fput f y (fs.map (·.1)) vs).1 ∧ RpL K F ((putF f w fs).map (·.2)) (fput f y (fs.map (·.1)) vs).2
  | [], vs, rl => by cases rl; exact ⟨rfl, .cons r .nil⟩
  | (g, x) :: fs, vs, rl => by
    cases rl with
    | cons r1 r2 =>
      obtain ⟨z1, z2⟩ := fput_ok r r2
      have e : putF f w ((g, x) :: fs) = if g = f then (f, w) :: fs else (g, x) :: putF f w fs := by
        by_cases h : g = f
        · subst h; rw [if_pos rfl]; exact if_pos rfl
        · rw [if_neg h]; exact if_neg h
      rw [e]
      simp only [List.map_cons, fput]
      by_cases h : g = f
      · simp only [h, if_true]; exact ⟨rfl, .cons r r2⟩
      · simp only [h, if_false]; exact ⟨by rw [List.map_cons, z1], .cons r1 z2⟩
def mSetF (i : Nat) (C : Addr) (f : Str) (m : M D) : M Fl := fun δ => (m δ).bind fun y => (ownAt i δ).bind fun d => match d with
  | .ins C' ns vs => if C' = C ∧ ns.length < 1000 then some (.nx (δ.set i (SV.own (.ins C (fput f y ns vs).1 (fput f y ns vs).2)))) else none
  | _ => none
theorem sp_fld {C : Addr} {f : Str} {tv : TE} {mv : M D} (cl : Cls c.K C) (na : NoAttr c.K C f) (h : Ex c tv mv) : SxP c i (sFld c.K (tVar i) tv f) (mSetF i C f mv) := fun p δ σ F H En fl S hp e k => by
  obtain ⟨y, e1, f1⟩ := Option.bind_eq_some_iff.mp e
  obtain ⟨d, e2, f2⟩ := Option.bind_eq_some_iff.mp f1
  split at f2
  · rename_i C' ns vs
    split at f2
    · rename_i hc
      obtain ⟨rfl, hl⟩ := hc
      cases f2
      have q := ownAt_ok e2
      refine h δ σ F H _ y S e1 fun w F1 H1 x1 r1 => ?_
      have S1 := S.up x1
      obtain ⟨a, o, h1, h2, h3, h4, h5⟩ := S1.own i _ q
      rw [hp] at h1; cases h1
      cases h5 with
      | @ins _ dx fs _ _ hn rl =>
        subst hn
        obtain ⟨z1, z2⟩ := fput_ok r1 rl
        refine ⟨.ref p, hp, p, C', dx, fs, rfl, h2, cl, na, by rw [← List.length_map (f := (·.1))]; exact hl, ?_⟩
        exact k σ F1 _ (S1.change q hp (.ins z1 z2) rfl) x1.f hp
    · cases f2
  · cases f2
def runS (n : Nat) (C : Addr) (m : M Fl) (d : D) : Option D := match m (initS n C d) with
  | some (.nx δ) => ownAt 0 δ
  | _ => none
theorem self_end {t : TS} {m : M Fl} {N : List Str} {K : PySem.W.Frag} {C : Addr} {vs : List V} {H : Hp} {Q : VK} {E : XK} (h : spSelf K C (runS N.length C m) vs H Q E) (sx : ∀ F0 H0, SxP ⟨K, F0, H0⟩ 0 t m) :
    t { nx := fun _ H' => Q .non H', rt := Q } (L2.start N vs) H := by
  obtain ⟨F, p, dx, v, d, z, s, hF, hp, rfl, r, e, k⟩ := h
  unfold runS at e
  split at e
  · rename_i δ q
    refine sx F (hideH p H) p (initS N.length C d) _ F H _ _ (sr_self s hF hp r) (by unfold L2.start; simp) q ?_
    intro σ' F' H' S' s' hp'
    obtain ⟨a, o, h1, h2, h3, h4, h5⟩ := S'.own 0 z (ownAt_ok e)
    rw [hp'] at h1; cases h1
    exact k F' H' o S'.ext h3 h2 h5
  · cases e
/-- C(e) -/
theorem ox_make {C : Addr} {r : D → Option D} (ha : Ex c ta ma) : Ox c (tMake C (spSelf c.K C r) [] E0 (tCons ta tNil)) (mF r ma) := fun δ σ F H Q z S e k => by
  obtain ⟨d, e1, e2⟩ := Option.bind_eq_some_iff.mp (show (ma δ).bind r = some z from e)
  refine ha δ σ F H _ d S e1 fun v F1 H1 x1 r1 => fun x dx hx hdx hne => ?_
  have hF : F1 x = none := none_of x1.s hx
  have hFd : F1 dx = none := none_of x1.s hdx
  refine ⟨F1, x, dx, v, d, z, fun b u q => ?_, hF, upd_same, rfl, r1, e2, fun F' H' o x2 h1 h2 h3 => ⟨rfl, ?_⟩⟩
  · rw [upd_ne (fun w => by subst w; rw [hF] at q; cases q), upd_ne (fun w => by subst w; rw [hFd] at q; cases q)]
    exact x1.s b u q
  · have old : ∀ b u, H1 b = some u → hideH x (upd (upd H1 dx (.own x)) x (.ins C dx [])) b = some u := fun b u q => by
      have hb : b ≠ x := ne_of_none q hx
      have hb2 : b ≠ dx := ne_of_none q hdx
      refine hide_of hb ?_
      rw [upd_ne hb, upd_ne hb2]; exact q
    have x3 : Ext F1 H1 F' H' := ⟨x2.f, fun b u q => x2.h b u (old b u q), x2.s, fun b u q1 q2 q3 => x2.n b u q1 (old b u q2) q3⟩
    exact k x o F' H' (x1.trans x3) (ext_none x1 hx).2 h2 h1 h3
/-- an own thing is changed by someone else -/
theorem SR.swap {K : PySem.W.Frag} {F0 H0 F H F' H' : Hp} {σ : St} {δ : DS} (S : SR K F0 H0 F H σ δ) {i : Nat} {p : Addr} {d z : D} {o' : HO} (hi : δ[i]? = some (SV.own d)) (hp : σ[i]? = some (some (V.ref p))) (x : Ext F (hideH p H) F' H') (hF : F' p = none) (ho : H' p = some o') (r : RpO K F' o' z) (hz : isOwnD z = true) :
    SR K F0 H0 F' H' σ (δ.set i (SV.own z)) := by
  obtain ⟨a, o, h1, h2, h3, h4, h5⟩ := S.own i d hi
  rw [hp] at h1; cases h1
  have np : ∀ b u, H0 b = some u → b ≠ p := fun b u e w => by subst w; rw [h4] at e; cases e
  refine ⟨⟨fun b u e => x.f b u (S.ext.f b u e), fun b u e => x.h b u (hide_of (np b u e) (S.ext.h b u e)), x.s, fun b u e1 e2 e3 => x.n b u (S.ext.n b u e1 e2 e3) (hide_of (np b u e2) (S.ext.h b u e2)) e3⟩, by rw [List.length_set]; exact S.len, fun j e h => ?_, fun j e h => ?_, fun j e h => ?_, fun j k b d1 e q1 q2 g1 g2 => ?_⟩
  · rcases set_get h with ⟨rfl, q⟩ | ⟨ne, q⟩
    · cases q
    · obtain ⟨v, z1, z2⟩ := S.fro j e q
      exact ⟨v, z1, z2.mono x.f⟩
  · rcases set_get h with ⟨rfl, q⟩ | ⟨ne, q⟩
    · cases q
      exact ⟨p, o', hp, ho, hF, h4, r⟩
    · obtain ⟨b, u, z1, z2, z3, z4, z5⟩ := S.own j e q
      have hb : b ≠ p := fun w => ne (by subst w; exact S.dis i j b d e hi q hp z1)
      exact ⟨b, u, z1, x.h b u (hide_of hb z2), x.n b u z3 (hide_of hb z2) (tupO_own z5 (S.nt j e q)), z4, z5.mono x.f⟩
  · rcases set_get h with ⟨rfl, q⟩ | ⟨ne, q⟩
    · cases q; exact hz
    · exact S.nt j e q
  · have o1 : ∃ d1', δ[j]? = some (SV.own d1') := by
      rcases set_get q1 with ⟨rfl, q⟩ | ⟨_, q⟩
      · exact ⟨_, hi⟩
      · exact ⟨_, q⟩
    have o2 : ∃ d1', δ[k]? = some (SV.own d1') := by
      rcases set_get q2 with ⟨rfl, q⟩ | ⟨_, q⟩
      · exact ⟨_, hi⟩
      · exact ⟨_, q⟩
    obtain ⟨_, o1⟩ := o1
    obtain ⟨_, o2⟩ := o2
    exact S.dis j k b _ _ o1 o2 g1 g2
/-- self.m(e) within __init__, m settles -/
theorem sp_meth {C : Addr} {m : Str} {r : D → Option D} (ha : Ex c ta ma) : SxP c i (tDrop (tMeth C m (spSelf c.K C r) [] E0 (tVar i) (tCons ta tNil))) (fun δ => (ownAt i δ).bind fun d => match d with
    | .ins C' [] [] => if C' = C then (ma δ).bind fun x => (r x).bind fun z => if isOwnD z then some (.nx (δ.set i (SV.own z))) else none else none
    | _ => none) := fun p δ σ F H En fl S hp e k => by
  obtain ⟨d, e1, f1⟩ := Option.bind_eq_some_iff.mp e
  split at f1
  · split at f1
    · rename_i hc; subst hc
      obtain ⟨x, e2, f2⟩ := Option.bind_eq_some_iff.mp f1
      obtain ⟨z, e3, f3⟩ := Option.bind_eq_some_iff.mp f2
      split at f3
      · rename_i hz
        cases f3
        have q := ownAt_ok e1
        obtain ⟨a0, o0, g1, g2, g3, g4, g5⟩ := S.own i _ q
        rw [hp] at g1; cases g1
        cases g5 with
        | @ins _ dx0 fs0 _ _ hn0 rl0 =>
          have hfs : fs0 = [] := by simpa using hn0
          subst hfs
          refine ⟨.ref p, hp, p, dx0, [], rfl, g2, rfl, ?_⟩
          refine ha δ σ F H _ x S e2 fun v F1 H1 x1 r1 => ?_
          have S1 := S.up x1
          obtain ⟨a, o, h1, h2, h3, h4, h5⟩ := S1.own i _ q
          rw [hp] at h1; cases h1
          cases h5 with
          | @ins _ dx fs _ _ hn rl =>
            have hfs : fs = [] := by simpa using hn
            subst hfs
            refine ⟨F1, p, dx, v, x, z, x1.s, h3, h2, rfl, r1, e3, fun F' H' o x2 y1 y2 y3 => ?_⟩
            exact k σ F' H' (S1.swap q hp x2 y1 y2 y3 hz) (x1.f.trans x2.f) hp
      · cases f3
    · cases f1
  · cases f1
theorem sp_if {t : TT} {m : M Bool} {u w : TS} {a b : M Fl} (h1 : Tx c t m) (ha : SxP c i u a) (hb : SxP c i w b) : SxP c i (tIfS t u w) (mIf m a b) := fun p δ σ F H En fl S hp e k => by
  obtain ⟨q, e1, e2⟩ := Option.bind_eq_some_iff.mp (show (m δ).bind (fun k => if k then a δ else b δ) = some fl from e)
  refine h1 δ σ F H _ q S e1 fun F1 H1 x1 => ?_
  have up : FlP c F1 En i p fl := by
    cases fl with
    | nx δ2 => exact fun σ2 F2 H2 S2 s2 hp2 => k σ2 F2 H2 S2 (x1.f.trans s2) hp2
    | _ => exact k
  cases q with
  | true => exact iteT (ha p δ σ F1 H1 En fl (S.up x1) hp e2 up)
  | false => exact iteF (hb p δ σ F1 H1 En fl (S.up x1) hp e2 up)
theorem sp_stop {t : TS} : SxP c i t mStop := fun p δ σ F H En fl S hp e k => by cases e
def mMethS (i : Nat) (C : Addr) (r : D → Option D) (ma : M D) : M Fl := fun δ => (ownAt i δ).bind fun d => match d with
    | .ins C' [] [] => if C' = C then (ma δ).bind fun x => (r x).bind fun z => if isOwnD z then some (.nx (δ.set i (SV.own z))) else none else none
    | _ => none
structure OwnSelf (P : Program) (w : World) (K : PySem.W.Frag) (mg : Str → Option Value) (base : Heap) (lvl : Nat) (C : Addr) (x : Str) (r : D → Option D) where
  f : Addr
  fd : FuncData
  ps : List Str
  F : FnOk P w K mg base CX0 lvl f fd ps (spSelf K C r)
  m : Meth K C x f
  c : Cls K C
  b : Binds K fd ps []
structure OwnInit (P : Program) (w : World) (K : PySem.W.Frag) (mg : Str → Option Value) (base : Heap) (lvl : Nat) (C : Addr) (x : Str) (r : D → Option D) where
  f : Addr
  fd : FuncData
  ps : List Str
  F : FnOk P w K mg base CX0 lvl f fd ps (spSelf K C r)
  M : Mk K C f
  g : mg x = some (.ref C)
  b : Binds K fd ps []
end
end DL

/-! comprehensions with two fors -/
namespace DL
open PySem PySem.Spec L2
section
variable {c : Cc}
/-- a thing that no slot owns is changed -/
theorem SR.poke {K : PySem.W.Frag} {F0 H0 F H : Hp} {σ : St} {δ : DS} (S : SR K F0 H0 F H σ δ) {A : Addr} {o' : HO} (h0 : H0 A = none) (hF : F A = none) (ho : ∀ (i : Nat) (d : D), δ[i]? = some (SV.own d) → σ[i]? ≠ some (some (V.ref A))) : SR K F0 H0 F (upd H A o') σ δ where
  ext := ⟨S.ext.f, fun b u e => by rw [upd_ne (ne_of_none e h0)]; exact S.ext.h b u e, fun b u e => by rw [upd_ne (ne_of_none e hF)]; exact S.ext.s b u e, S.ext.n⟩
  len := S.len
  fro := S.fro
  own := fun i d e => by
    obtain ⟨a, o, h1, h2, h3⟩ := S.own i d e
    refine ⟨a, o, h1, ?_, h3⟩
    rw [upd_ne (fun z => by subst z; exact ho i d e h1)]; exact h2
  nt := S.nt
  dis := S.dis
def keepsOwn (st : DS → D → Option DS) : Prop := ∀ δ d δ', st δ d = some δ' → ∀ (i : Nat) e, δ'[i]? = some (SV.own e) → δ[i]? = some (SV.own e)
theorem keeps_stN (i : Nat) : keepsOwn (stN i) := fun δ d δ' e j x h => by
  cases e
  rcases set_get h with ⟨rfl, q⟩ | ⟨_, q⟩
  · cases q
  · exact q
theorem wipeD_own : ∀ {vs : List Nat} {δ : DS} {i : Nat} {d : D}, (wipeD δ vs)[i]? = some (SV.own d) → δ[i]? = some (SV.own d) ∧ i ∉ vs
  | [], _, _, _, h => ⟨h, by simp⟩
  | v :: vs, δ, i, d, h => by
    rcases set_get (show ((wipeD δ vs).set v SV.unk)[i]? = _ from h) with ⟨rfl, q⟩ | ⟨n, q⟩
    · cases q
    · obtain ⟨h1, h2⟩ := wipeD_own q
      exact ⟨h1, by simp only [List.mem_cons, not_or]; exact ⟨Ne.symm n, h2⟩⟩
/-- .. the slots that own do not own A -/
def NoA (A : Addr) (σ : St) (δ : DS) : Prop := ∀ (i : Nat) (d : D), δ[i]? = some (SV.own d) → σ[i]? ≠ some (some (V.ref A))
theorem NoA.of {K : PySem.W.Frag} {F0 H0 F H : Hp} {σ : St} {δ : DS} (S : SR K F0 H0 F H σ δ) {A : Addr} (h : H A = none) : NoA A σ δ := fun i d e q => by
  obtain ⟨a, o, h1, h2, _⟩ := S.own i d e
  rw [q] at h1; cases h1
  rw [h] at h2; cases h2
theorem NoA.step {A : Addr} {σ σ' : St} {δ δ' : DS} {vs : List Nat} {st : DS → D → Option DS} {d : D} (h : NoA A σ δ) (hs : keepsOwn st) (e : st (wipeD δ vs) d = some δ') (hw : L2.wipe σ' vs = L2.wipe σ vs) : NoA A σ' δ' := fun i x q z => by
  have q1 := hs _ _ _ e i x q
  obtain ⟨q2, q3⟩ := wipeD_own q1
  refine h i x q2 ?_
  rw [← L2.wipe_out (vs := vs) q3, ← hw, L2.wipe_out q3]; exact z
def loopC2 (st : DS → D → Option DS) (t : M Bool) (vs1 : List Nat) (w1 : M (List D)) (st1 : DS → D → Option DS) (t1 : M Bool) (m : M D) (δ : DS) : List D → Option (List D)
  | [] => some []
  | d :: ds => match st δ d with
    | none => none
    | some δ1 => match t δ1 with
      | some true => match w1 δ1 with
        | some es => match loopC st1 t1 m (wipeD δ1 vs1) es with
          | some r1 => (loopC2 st t vs1 w1 st1 t1 m δ ds).map fun r => r1 ++ r
          | none => none
        | none => none
      | some false => loopC2 st t vs1 w1 st1 t1 m δ ds
      | none => none
def mLc2 (vs : List Nat) (w : M (List D)) (st : DS → D → Option DS) (t : M Bool) (vs1 : List Nat) (w1 : M (List D)) (st1 : DS → D → Option DS) (t1 : M Bool) (m : M D) : M D := fun δ => (w δ).bind fun ds => (loopC2 st t vs1 w1 st1 t1 m (wipeD δ vs) ds).bind fun r => if decide (r.length ≤ sizeLine) then some (.lst r) else none
theorem ox_lc2 {wi wi1 : TI} {g g1 : TG} {st st1 : DS → D → Option DS} {tt tt1 : TT} {t t1 : M Bool} {te : TE} {m : M D} {w w1 : M (List D)} {vs vs1 : List Nat} (hw : Wx c wi w) (hg : Gw c g st vs) (hs : keepsOwn st) (ht : Tx c tt t) (hw1 : Wx c wi1 w1) (hg1 : Gw c g1 st1 vs1) (hs1 : keepsOwn st1) (ht1 : Tx c tt1 t1) (he : Ex c te m) :
    Ox c (tLc2 wi g tt wi1 g1 tt1 te vs vs1) (mLc2 vs w st t vs1 w1 st1 t1 m) := fun δ σ F H Q z S e k => by
  obtain ⟨ds, e1, e2⟩ := Option.bind_eq_some_iff.mp (show (w δ).bind _ = some z from e)
  obtain ⟨res, e3, e3'⟩ := Option.bind_eq_some_iff.mp e2
  split at e3'
  case isFalse => cases e3'
  case isTrue hl =>
  cases e3'
  have hl := of_decide_eq_true hl
  refine hw δ σ F H _ ds S e1 fun J F1 H1 x1 it A hA => ?_
  have hFA : F1 A = none := none_of x1.s hA
  have S1 := S.up x1
  have h0A : c.H0 A = none := by
    cases q : c.H0 A with
    | none => rfl
    | some u => rw [S1.ext.h A u q] at hA; cases hA
  have no1 : NoA A σ δ := NoA.of S1 hA
  have xA : Ext F1 H1 F1 (upd H1 A (.lst [])) := Ext.temp x1.s hA
  refine ⟨fun i n H' => n = ds.length - i ∧ i ≤ ds.length ∧ ∃ F' acc out rst, Ext F1 H1 F' H' ∧ F' A = none ∧ H' A = some (.lst acc) ∧ RpL c.K F' acc out ∧ loopC2 st t vs1 w1 st1 t1 m (wipeD δ vs) (ds.drop i) = some rst ∧ res = out ++ rst,
    ⟨ds.length, by simp, Nat.zero_le _, F1, [], [], res, xA, hFA, upd_same, .nil, e3, rfl⟩, ?_⟩
  rintro i n H2 ⟨rfl, hi, F2, acc, out, rst, x2, hF2, hH2, rl, e4, e5⟩
  by_cases hlt : i < ds.length
  · refine .inr ⟨it.go i F2 H2 x2.f x2.s hlt, ?_⟩
    cases q : ds.drop i with
    | nil =>
      have := congrArg List.length q
      rw [List.length_drop] at this
      simp at this
      omega
    | cons d r =>
      obtain ⟨g1', g2, _⟩ := drop_get q
      rw [q] at e4
      unfold loopC2 at e4
      refine ⟨fun H' => ∃ F' acc out rst, Ext F1 H1 F' H' ∧ F' A = none ∧ H' A = some (.lst acc) ∧ RpL c.K F' acc out ∧ loopC2 st t vs1 w1 st1 t1 m (wipeD δ vs) (ds.drop (i + 1)) = some rst ∧ res = out ++ rst, fun H' z => ⟨_, by omega, rfl, hlt, z⟩, fun x H3 y => ?_⟩
      obtain ⟨F3, x3, r3⟩ := it.yld i F2 H2 x H3 d x2.f x2.s g1' y
      have S3 : SR c.K c.F0 c.H0 F3 H3 (L2.wipe σ vs) (wipeD δ vs) := ((S1.up x2).up x3).wipes vs
      have hF3 : F3 A = none := x3.n A _ hF2 hH2 rfl
      have hH3 : H3 A = some (.lst acc) := x3.h A _ hH2
      cases q1 : st (wipeD δ vs) d with
      | none => rw [q1] at e4; cases e4
      | some δ3 =>
        rw [q1] at e4
        dsimp only at e4
        refine hg _ δ3 σ F3 H3 _ x d S3 r3 q1 fun σ4 S4 hw4 => ⟨hw4, ?_⟩
        have no4 : NoA A σ4 δ3 := no1.step hs q1 hw4
        cases q2 : t δ3 with
        | none => rw [q2] at e4; cases e4
        | some k1 =>
          rw [q2] at e4
          refine ht δ3 σ4 F3 H3 _ k1 S4 q2 fun F5 H5 x5 => ?_
          have hF5 : F5 A = none := x5.n A _ hF3 hH3 rfl
          have hH5 : H5 A = some (.lst acc) := x5.h A _ hH3
          have x15 : Ext F1 H1 F5 H5 := (x2.trans x3).trans x5
          have rl5 : RpL c.K F5 acc out := (rl.mono x3.f).mono x5.f
          cases k1 with
          | false => exact iteF ⟨F5, acc, out, rst, x15, hF5, hH5, rl5, by rw [g2]; exact e4, e5⟩
          | true =>
            dsimp only at e4
            cases q3 : w1 δ3 with
            | none => rw [q3] at e4; cases e4
            | some es =>
              rw [q3] at e4
              dsimp only at e4
              cases q4 : loopC st1 t1 m (wipeD δ3 vs1) es with
              | none => rw [q4] at e4; cases e4
              | some r1 =>
                rw [q4] at e4
                obtain ⟨r2, e6, rfl⟩ := Option.map_eq_some_iff.mp e4
                refine iteT (hw1 δ3 σ4 F5 H5 _ es (S4.up x5) q3 fun J1 F6 H6 x6 it1 => ?_)
                have S6 := (S4.up x5).up x6
                have x16 := x15.trans x6
                refine ⟨fun j n H' => n = es.length - j ∧ j ≤ es.length ∧ ∃ F' acc out' rst', Ext F1 H1 F' H' ∧ Same F6 F' ∧ SR c.K c.F0 c.H0 F' H' σ4 δ3 ∧ F' A = none ∧ H' A = some (.lst acc) ∧ RpL c.K F' acc (out ++ out') ∧ loopC st1 t1 m (wipeD δ3 vs1) (es.drop j) = some rst' ∧ r1 = out' ++ rst',
                  ⟨es.length, by simp, Nat.zero_le _, F6, acc, [], r1, x16, Same.refl _, S6, x6.n A _ hF5 hH5 rfl, x6.h A _ hH5, by rw [List.append_nil]; exact rl5.mono x6.f, q4, rfl⟩, ?_⟩
                rintro j n H7 ⟨rfl, hj, F7, acc7, out7, rst7, x17, s67, S7, hF7, hH7, rl7, e7, e8⟩
                by_cases hjt : j < es.length
                · refine .inr ⟨it1.go j F7 H7 s67 S7.sFH hjt, ?_⟩
                  cases p : es.drop j with
                  | nil =>
                    have := congrArg List.length p
                    rw [List.length_drop] at this
                    simp at this
                    omega
                  | cons d' r' =>
                    obtain ⟨p1, p2, _⟩ := drop_get p
                    rw [p] at e7
                    unfold loopC at e7
                    refine ⟨fun H' => ∃ F' acc out' rst', Ext F1 H1 F' H' ∧ Same F6 F' ∧ SR c.K c.F0 c.H0 F' H' σ4 δ3 ∧ F' A = none ∧ H' A = some (.lst acc) ∧ RpL c.K F' acc (out ++ out') ∧ loopC st1 t1 m (wipeD δ3 vs1) (es.drop (j + 1)) = some rst' ∧ r1 = out' ++ rst', fun H' z => ⟨_, by omega, rfl, hjt, z⟩, fun x' H8 y' => ?_⟩
                    obtain ⟨F8, x8, r8⟩ := it1.yld j F7 H7 x' H8 d' s67 S7.sFH p1 y'
                    have S8 := S7.up x8
                    have hF8 : F8 A = none := x8.n A _ hF7 hH7 rfl
                    have hH8 : H8 A = some (.lst acc7) := x8.h A _ hH7
                    cases q5 : st1 (wipeD δ3 vs1) d' with
                    | none => rw [q5] at e7; cases e7
                    | some δ9 =>
                      rw [q5] at e7
                      dsimp only at e7
                      refine hg1 _ δ9 σ4 F8 H8 _ x' d' (S8.wipes vs1) r8 q5 fun σ9 S9 hw9 => ⟨hw9, ?_⟩
                      cases q6 : t1 δ9 with
                      | none => rw [q6] at e7; cases e7
                      | some k2 =>
                        rw [q6] at e7
                        refine ht1 δ9 σ9 F8 H8 _ k2 S9 q6 fun Fa Ha xa => ?_
                        have hFa : Fa A = none := xa.n A _ hF8 hH8 rfl
                        have hHa : Ha A = some (.lst acc7) := xa.h A _ hH8
                        have sa : Same F6 Fa := s67.trans (x8.f.trans xa.f)
                        cases k2 with
                        | false => exact iteF ⟨Fa, acc7, out7, rst7, (x17.trans x8).trans xa, sa, S8.up xa, hFa, hHa, (rl7.mono x8.f).mono xa.f, by rw [p2]; exact e7, e8⟩
                        | true =>
                          dsimp only at e7
                          cases q7 : m δ9 with
                          | none => rw [q7] at e7; cases e7
                          | some yv =>
                            rw [q7] at e7
                            obtain ⟨rst', e9, rfl⟩ := Option.map_eq_some_iff.mp e7
                            refine iteT (he δ9 σ9 Fa Ha _ yv (S9.up xa) q7 fun v Fb Hb xb rb => ?_)
                            have hFb : Fb A = none := xb.n A _ hFa hHa rfl
                            have hHb : Hb A = some (.lst acc7) := xb.h A _ hHa
                            have hx : Ext F1 H1 Fb Hb := ((x17.trans x8).trans xa).trans xb
                            have rlb : RpL c.K Fb acc7 (out ++ out7) := ((rl7.mono x8.f).mono xa.f).mono xb.f
                            have hlen : acc7.length < sizeLine := by
                              have h1 := rlb.length
                              have h2 : res.length = (out ++ (out7 ++ (yv :: rst') ++ r2)).length := by rw [e5, e8]
                              simp only [List.length_append, List.length_cons] at h1 h2
                              omega
                            refine ⟨acc7, hHb, hlen, Fb, acc7 ++ [v], out7 ++ [yv], rst', ⟨hx.f, fun b o z => ?_, fun b o z => ?_, hx.n⟩, sa.trans xb.f, ((S8.up xa).up xb).poke h0A hFb no4, hFb, upd_same, ?_, by rw [p2]; exact e9, by rw [e8, List.append_assoc]; rfl⟩
                            · rw [upd_ne (ne_of_none z hA)]; exact hx.h b o z
                            · rw [upd_ne (ne_of_none z hFb)]; exact hx.s b o z
                            · rw [← List.append_assoc]; exact rlb.app (.cons rb .nil)
                · have ej : j = es.length := by omega
                  subst ej
                  rw [List.drop_length] at e7
                  cases e7
                  rw [List.append_nil] at e8
                  subst e8
                  exact .inl ⟨it1.stop F7 H7 s67 S7.sFH, F7, acc7, out ++ r1, r2, x17, hF7, hH7, rl7, by rw [g2]; exact e6, by rw [e5, List.append_assoc]⟩
  · have e : i = ds.length := by omega
    subst e
    rw [List.drop_length] at e4
    cases e4
    rw [List.append_nil] at e5
    subst e5
    refine .inl ⟨it.stop F2 H2 x2.f x2.s, k A _ F2 H2 (x1.trans x2) (ext_none x1 hA).2 hH2 hF2 (.lst rl)⟩
end
end DL
namespace DL
open PySem PySem.Spec L2
theorem wipe_set : ∀ (vs : List Nat) (σ : St) (i : Nat) (x : Option V), i ∈ vs → L2.wipe (σ.set i x) vs = L2.wipe σ vs := fun vs σ i x hi => by
  refine List.ext_getElem? fun n => ?_
  have key : ∀ τ : L2.St, n ∈ vs → (L2.wipe τ vs)[n]? = if n < τ.length then some none else none := fun τ hn => by
    cases q : (L2.wipe τ vs)[n]? with
    | none =>
      have := List.getElem?_eq_none_iff.mp q
      rw [wipe_length] at this
      rw [if_neg (by omega)]
    | some o =>
      have := (List.getElem?_eq_some_iff.mp q).1
      rw [wipe_length] at this
      rw [if_pos this]
      cases o with
      | none => rfl
      | some v => exact absurd hn (wipe_some q).2
  by_cases hn : n ∈ vs
  · rw [key _ hn, key _ hn, List.length_set]
  · rw [wipe_out hn, wipe_out hn, List.getElem?_set_ne (fun z => hn (by rw [← z]; exact hi))]
theorem gw_in {c : Cc} (i : Nat) (vs : List Nat) (hi : i ∈ vs := by simp) : Gw c (gName i) (stN i) vs := fun δ δ' σ F H Q v d S r e k => by
  cases e
  refine k _ (S.set r) ?_
  rw [wipe_set vs _ i _ hi]
  refine List.ext_getElem? fun n => ?_
  by_cases hn : n ∈ vs
  · cases q : (L2.wipe (L2.wipe σ vs) vs)[n]? with
    | none =>
      have := List.getElem?_eq_none_iff.mp q
      rw [wipe_length, wipe_length] at this
      exact (List.getElem?_eq_none_iff.mpr (by rw [wipe_length]; exact this)).symm
    | some o =>
      have h1 := (List.getElem?_eq_some_iff.mp q).1
      rw [wipe_length, wipe_length] at h1
      cases o with
      | some x => exact absurd hn (wipe_some q).2
      | none =>
        cases p : (L2.wipe σ vs)[n]? with
        | none =>
          have := List.getElem?_eq_none_iff.mp p
          rw [wipe_length] at this
          omega
        | some o2 =>
          cases o2 with
          | none => rfl
          | some x => exact absurd hn (wipe_some p).2
  · rw [wipe_out hn]
end DL

/-! sorted({e for x in xs if t}), tuples of ints -/
namespace DL
open PySem PySem.Spec L2
theorem hu2 {k : Nat} {A : Around} (h : Room k A) : A.units + 2 < cLine := Nat.lt_of_le_of_lt (by omega) (hu65 h)
section
variable {c : Cc} {P : Program} {ww : World}
def ddL : List (List Int) → List (List Int) → List (List Int)
  | acc, [] => acc
  | acc, k :: r => ddL (if acc.contains k then acc else k :: acc) r
def mSortSc (vs : List Nat) (w : M (List D)) (st : DS → D → Option DS) (t : M Bool) (m : M D) : M D := fun δ => (w δ).bind fun ds => (loopC st t m (wipeD δ vs) ds).bind fun res => (zsD res).bind fun bs => if decide (bs.length < 63) then some (.lst ((sortL (ddL [] bs)).map tupI)) else none
theorem zsD_cons {d : D} {ds : List D} {bs : List (List Int)} (h : zsD (d :: ds) = some bs) : ∃ b r, zD d = some b ∧ zsD ds = some r ∧ bs = b :: r := by
  obtain ⟨b, h1, h2⟩ := Option.bind_eq_some_iff.mp (show ((zD d).bind fun b => (zsD ds).map fun bs => b :: bs) = some bs from h)
  obtain ⟨r, h3, rfl⟩ := Option.map_eq_some_iff.mp h2
  exact ⟨b, r, h1, h3, rfl⟩
theorem ox_sortSc {wi : TI} {g : TG} {st : DS → D → Option DS} {tt : TT} {t : M Bool} {te : TE} {m : M D} {w : M (List D)} {vs : List Nat} (hw : Wx c wi w) (hg : Gw c g st vs) (ht : Tx c tt t) (he : Ex c te m) :
    Ox c (tCB (rSortedTS P ww c.K) (tCons (tScT P ww c.K wi g tt te vs) tNil)) (mSortSc vs w st t m) := fun δ σ F H Q z S e k => by
  obtain ⟨ds, e1, e2⟩ := Option.bind_eq_some_iff.mp (show (w δ).bind _ = some z from e)
  obtain ⟨res, e3, e2⟩ := Option.bind_eq_some_iff.mp e2
  obtain ⟨bs, e4, e2⟩ := Option.bind_eq_some_iff.mp e2
  split at e2
  case isFalse => cases e2
  case isTrue hl =>
  have hl := of_decide_eq_true hl
  cases e2
  refine hw δ σ F H _ ds S e1 fun J F1 H1 x1 it A hA => ?_
  have hFA : F1 A = none := none_of x1.s hA
  have xA : Ext F1 H1 F1 (upd H1 A (SetTO P ww A [])) := Ext.temp x1.s hA
  refine ⟨fun i n H' => n = ds.length - i ∧ i ≤ ds.length ∧ ∃ F' L acc rst br, Ext F1 H1 F' H' ∧ F' A = none ∧ H' A = some (SetTO P ww A L) ∧ (∀ p ∈ L, F' p.1 = some (.tup (p.2.map V.int)) ∧ p.2 ≠ []) ∧ (L.map (·.2)).Perm acc ∧ loopC st t m (wipeD δ vs) (ds.drop i) = some rst ∧ zsD rst = some br ∧ acc.length + br.length < 63 ∧ ddL [] bs = ddL acc br,
    ⟨ds.length, by simp, Nat.zero_le _, F1, [], [], res, bs, xA, hFA, upd_same, fun p hp => (by cases hp), List.Perm.refl _, e3, e4, by simpa using hl, rfl⟩, ?_⟩
  rintro i n H2 ⟨rfl, hi, F2, L, acc, rst, br, x2, hF2, hH2, hL, pm, e5, e6, e7, e8⟩
  by_cases hlt : i < ds.length
  · refine .inr ⟨it.go i F2 H2 x2.f x2.s hlt, ?_⟩
    cases q : ds.drop i with
    | nil =>
      have := congrArg List.length q
      rw [List.length_drop] at this
      simp at this
      omega
    | cons d r =>
      obtain ⟨g1, g2, _⟩ := drop_get q
      rw [q] at e5
      unfold loopC at e5
      refine ⟨fun H' => ∃ F' L acc rst br, Ext F1 H1 F' H' ∧ F' A = none ∧ H' A = some (SetTO P ww A L) ∧ (∀ p ∈ L, F' p.1 = some (.tup (p.2.map V.int)) ∧ p.2 ≠ []) ∧ (L.map (·.2)).Perm acc ∧ loopC st t m (wipeD δ vs) (ds.drop (i + 1)) = some rst ∧ zsD rst = some br ∧ acc.length + br.length < 63 ∧ ddL [] bs = ddL acc br, fun H' z => ⟨_, by omega, rfl, hlt, z⟩, fun x H3 y => ?_⟩
      obtain ⟨F3, x3, r3⟩ := it.yld i F2 H2 x H3 d x2.f x2.s g1 y
      have S3 : SR c.K c.F0 c.H0 F3 H3 (L2.wipe σ vs) (wipeD δ vs) := (((S.up x1).up x2).up x3).wipes vs
      have hF3 : F3 A = none := x3.n A _ hF2 hH2 rfl
      have hH3 : H3 A = some (SetTO P ww A L) := x3.h A _ hH2
      cases q1 : st (wipeD δ vs) d with
      | none => rw [q1] at e5; cases e5
      | some δ3 =>
        rw [q1] at e5
        dsimp only at e5
        refine hg _ δ3 σ F3 H3 _ x d S3 r3 q1 fun σ4 S4 hw4 => ⟨hw4, ?_⟩
        cases q2 : t δ3 with
        | none => rw [q2] at e5; cases e5
        | some k1 =>
          rw [q2] at e5
          refine ht δ3 σ4 F3 H3 _ k1 S4 q2 fun F5 H5 x5 => ?_
          have hF5 : F5 A = none := x5.n A _ hF3 hH3 rfl
          have hH5 : H5 A = some (SetTO P ww A L) := x5.h A _ hH3
          cases k1 with
          | false =>
            exact iteF ⟨F5, L, acc, rst, br, (x2.trans x3).trans x5, hF5, hH5, fun p hp => ⟨x5.f _ _ (x3.f _ _ (hL p hp).1), (hL p hp).2⟩, pm, by rw [g2]; exact e5, e6, e7, e8⟩
          | true =>
            dsimp only at e5
            cases q3 : m δ3 with
            | none => rw [q3] at e5; cases e5
            | some yv =>
              rw [q3] at e5
              obtain ⟨rst', e9, rfl⟩ := Option.map_eq_some_iff.mp e5
              obtain ⟨b, br', z1, z2, rfl⟩ := zsD_cons e6
              obtain ⟨es, rfl, z3, z4⟩ := zD_ok z1
              refine iteT (he δ3 σ4 F5 H5 _ _ (S4.up x5) q3 fun v F6 H6 x6 r6 => ?_)
              obtain ⟨a, xs, rfl, h1, rl⟩ := rp_tup r6
              obtain ⟨rfl, _⟩ := ints_ok rl z3
              have hF6 : F6 A = none := x6.n A _ hF5 hH5 rfl
              have hH6 : H6 A = some (SetTO P ww A L) := x6.h A _ hH5
              have hx : Ext F1 H1 F6 H6 := ((x2.trans x3).trans x5).trans x6
              have hL6 : ∀ p ∈ L, F6 p.1 = some (.tup (p.2.map V.int)) ∧ p.2 ≠ [] := fun p hp => ⟨x6.f _ _ (x5.f _ _ (x3.f _ _ (hL p hp).1)), (hL p hp).2⟩
              have hlen : L.length = acc.length := by have := pm.length_eq; rw [List.length_map] at this; exact this
              refine ⟨a, b, L, rfl, SqT.of (x6.s _ _ h1), hH6, fun p hp => SqT.of (x6.s _ _ (hL6 p hp).1), by simp only [List.length_cons] at e7; omega, fun L' y1 y2 => ?_⟩
              refine ⟨F6, L', if acc.contains b then acc else b :: acc, rst', br', ⟨hx.f, fun b o z => ?_, fun b o z => ?_, hx.n⟩, hF6, upd_same, fun p hp => ?_, ?_, by rw [g2]; exact e9, z2, ?_, e8⟩
              · rw [upd_ne (ne_of_none z hA)]; exact hx.h b o z
              · rw [upd_ne (ne_of_none z hF6)]; exact hx.s b o z
              · by_cases hb : b ∈ L.map (·.2)
                · rw [y1 hb] at hp; exact hL6 p hp
                · rcases List.mem_cons.mp ((y2 hb).mem_iff.mp hp) with rfl | hp
                  · exact ⟨h1, z4⟩
                  · exact hL6 p hp
              · by_cases hb : b ∈ L.map (·.2)
                · rw [y1 hb, if_pos (by simpa using pm.mem_iff.mp hb)]; exact pm
                · rw [if_neg (by simpa using fun h => hb (pm.mem_iff.mpr h))]
                  exact ((y2 hb).map _).trans (pm.cons b)
              · simp only [List.length_cons] at e7
                split
                · omega
                · simp only [List.length_cons]; omega
  · have ei : i = ds.length := by omega
    subst ei
    rw [List.drop_length] at e5
    cases e5
    cases e6
    have e8 : ddL [] bs = acc := e8
    refine .inl ⟨it.stop F2 H2 x2.f x2.s, fun t b => F2 t = some (.tup (b.map V.int)), A, L, rfl, hH2, fun p hp => ⟨SqT.of (x2.s _ _ (hL p hp).1), (hL p hp).1⟩, fun p hp => (hL p hp).2, fun xs p hxs hp => ?_⟩
    have e10 : sortL (L.map (·.2)) = sortL (ddL [] bs) := by
      rw [e8]
      exact sortL_uniq ((sortL_perm _).trans (pm.trans (sortL_perm _).symm)) (sortL_sorted _) (sortL_sorted _)
    rw [e10] at hxs
    have x12 := x1.trans x2
    exact k p _ F2 _ (x12.trans (Ext.temp x2.s hp)) (ext_none x12 hp).2 upd_same (none_of x2.s hp) (.lst (paired_rp hxs))
end
end DL

/-! dice: what is drawn -/
namespace DN
open PySem PySem.Spec PyProof.Rows L2 DL
section
variable {X : Cx}
def CPowW (i j : Int) : Prop := j ≥ 0 ∧ ¬(j == 0) = true ∧ ¬(i == 0 || i == 1) = true ∧ ¬(i == -1) = true ∧ ¬PySem.Builtin.Int.intTooBig (((PySem.Builtin.Int.intBits i : Nat) : Int) * j) = true
theorem op_powW : OpR X (binaryOp .Pow) (rI CPowW fun i j => .int (i ^ j.toNat)) := opI fun _ _ _ _ _ _ _ hc q => AutoIntOps.pow_4 hc.1 hc.2.1 hc.2.2.1 hc.2.2.2.1 hc.2.2.2.2 q
end
def DiceAt (H : Hp) (a : Addr) : Prop := ∃ l m c : Int, H a = some (.lst [.int l, .int m, .int c])
/-- all else stands -/
def Off (a : Addr) (H H' : Hp) : Prop := ∀ b, b ≠ a → H' b = H b
theorem Off.refl (a : Addr) (H : Hp) : Off a H H := fun _ _ => rfl
theorem Off.upd {a : Addr} {H H' : Hp} {o : HO} (h : Off a H H') : Off a H (L2.upd H' a o) := fun b hb => by rw [upd_ne hb]; exact h b hb
theorem Off.trans {a : Addr} {H H' H'' : Hp} (h : Off a H H') (k : Off a H' H'') : Off a H H'' := fun b hb => (k b hb).trans (h b hb)
def spRoll : Sp := fun vs H Q _ => ∃ (a : Addr) (n : Int), vs = [.ref a, .int n] ∧ DiceAt H a ∧ 0 < n ∧ n < 1073741824 ∧ ∀ (r : Int) (H' : Hp), 0 ≤ r → r < n → DiceAt H' a → Off a H H' → Q (.int r) H'
def spOne (K : PySem.W.Frag) : Sp := fun vs H Q _ => ∃ (a b : Addr) (xs : List V), vs = [.ref a, .ref b] ∧ DiceAt H a ∧ b ≠ a ∧ (SqL K H b xs ∨ SqT K H b xs) ∧ 0 < xs.length ∧ xs.length < 1073741824 ∧
  ∀ (i : Nat) (x : V) (H' : Hp), xs[i]? = some x → DiceAt H' a → Off a H H' → Q x H'
def spDice (K : PySem.W.Frag) : Sp := fun vs H Q _ => ∃ (b : Addr) (ns : List Int) (i : Int), vs = [.ref b, .int i] ∧ SqL K H b (ns.map V.int) ∧ 0 ≤ i ∧ i < 64 ∧
  ∀ (a : Addr) (H' : Hp), H a = none → DiceAt H' a → Off a H H' → Q (.ref a) H'

/-! readings -/
abbrev rMul : R2 := rI CMul fun i j => .int (i * j)
abbrev rMod : R2 := rI (fun _ j => 0 < j) fun i j => .int (i % j)
abbrev rDiv : R2 := rI CDiv fun i j => .int (i / j)
abbrev rAdd : R2 := rI0 fun i j => .int (i + j)
abbrev tAt (K : PySem.W.Frag) (i : Nat) (j : Int) : TE := tOp (rIx K) (tVar i) (tC (.int j))
abbrev sAt (i : Nat) (j : Int) (te : TE) : TS := tAsg te (gSub (tVar i) (tC (.int j)) rSetL)
def t_roll (K : PySem.W.Frag) : TS :=
  tSeq (tAsg (tCB rInt1 (tCons (tVar 1) tNil)) (gName 2)) <|
  tSeq (tIfS (tTest (tOp (rI0 fun i j => .bl (decide (j < i))) (tAt K 0 0) (tC (.int 0))))
    (tSeq (tAsg (tOp rMod (tAt K 0 0) (tVar 2)) (gName 3)) <| tSeq (sAt 0 0 (tOp rDiv (tAt K 0 0) (tVar 2))) <| tRet (tCB rInt1 (tCons (tVar 3) tNil))) tNext) <|
  tSeq (sAt 0 2 (tOp rAdd (tAt K 0 2) (tC (.int 1)))) <|
  tSeq (tAsg (tOp rMod (tOp rAdd (tAt K 0 1) (tOp rMul (tC (.int 1000381)) (tAt K 0 2))) (tC (.int 2305843009213693951))) (gName 4)) <|
  tSeq (tAsg (tOp rAdd (tOp rMul (tOp rMod (tOp rMul (tVar 4) (tVar 4)) (tC (.int 2305843009213693921))) (tVar 4)) (tOp rMul (tC (.int 9497)) (tAt K 0 2))) (gName 5)) <|
  tSeq (tAsg (tOp rMod (tVar 5) (tC (.int 2305843009213693907))) (gName 5)) <|
  tRet (tCB rInt1 (tCons (tOp rMod (tOp rDiv (tVar 5) (tC (.int 4096))) (tVar 2)) tNil))
theorem at3 {K : PySem.W.Frag} {H : Hp} {a : Addr} {l m c : Int} (h : H a = some (.lst [.int l, .int m, .int c])) : SqL K H a [.int l, .int m, .int c] := SqL.of h
theorem pure_roll {K : PySem.W.Frag} (vs : List V) (H : Hp) (Q : VK) (E : XK) (h : spRoll vs H Q E) :
    t_roll K { nx := fun _ H' => Q .non H', rt := Q } (start ["_law_dice_here", "_law_total", "_law_size", "_law_drawn", "_law_one", "_law_two"] vs) H := by
  obtain ⟨a, n, rfl, ⟨l, m, c, hd⟩, h0, h1, k⟩ := h
  refine ⟨_, rfl, .inl ⟨n, rfl, ?_⟩⟩
  refine ⟨_, rfl, .inl ⟨a, _, _, _, rfl, rfl, at3 hd, atI_nat (j := 0) rfl, _, _, rfl, rfl, _, rfl, ?_⟩⟩
  by_cases hl : 0 < l
  · refine Eq.mpr (if_pos (decide_eq_true hl)) ?_
    refine ⟨_, rfl, .inl ⟨a, _, _, _, rfl, rfl, at3 hd, atI_nat (j := 0) rfl, _, rfl, _, _, rfl, rfl, h0, ?_⟩⟩
    refine ⟨_, rfl, .inl ⟨a, _, _, _, rfl, rfl, at3 hd, atI_nat (j := 0) rfl, _, rfl, _, _, rfl, rfl, ⟨h0, h1⟩, _, rfl, a, _, _, 0, rfl, rfl, hd, rfl, ?_⟩⟩
    refine ⟨_, rfl, .inl ⟨_, rfl, ?_⟩⟩
    exact k _ _ (Int.emod_nonneg _ (by omega)) (Int.emod_lt_of_pos _ h0) ⟨_, _, _, upd_same⟩ (Off.refl _ _).upd
  · refine Eq.mpr (if_neg (by rw [decide_eq_false hl]; exact Bool.false_ne_true)) ?_
    refine ⟨_, rfl, .inl ⟨a, _, _, _, rfl, rfl, at3 hd, atI_nat (j := 2) rfl, _, _, rfl, rfl, _, rfl, a, _, _, 2, rfl, rfl, hd, rfl, ?_⟩⟩
    have h2 : upd H a (.lst ([V.int l, .int m, .int c].set 2 (.int (c + 1)))) a = some (.lst [.int l, .int m, .int (c + 1)]) := upd_same
    generalize hH : upd H a (.lst ([V.int l, .int m, .int c].set 2 (.int (c + 1)))) = H1 at h2
    have off : Off a H H1 := by rw [← hH]; exact (Off.refl _ _).upd
    have S1 := at3 (K := K) h2
    refine ⟨_, rfl, .inl ⟨a, _, _, _, rfl, rfl, S1, atI_nat (j := 1) rfl, _, rfl, .inl ⟨a, _, _, _, rfl, rfl, S1, atI_nat (j := 2) rfl, _, _, rfl, rfl, .inl ⟨by decide, by decide⟩, _, _, rfl, rfl, _, _, rfl, rfl, (show (0:Int) < 2305843009213693951 by decide), ?_⟩⟩⟩
    have b1 := Int.emod_nonneg (m + 1000381 * (c + 1)) (b := 2305843009213693951) (by decide)
    have b2 := Int.emod_lt_of_pos (m + 1000381 * (c + 1)) (b := 2305843009213693951) (by decide)
    have cm : ∀ j, CMul ((m + 1000381 * (c + 1)) % 2305843009213693951) j := fun j => .inl ⟨by omega, by omega⟩
    have cn : ∀ i : Int, CMul (i % 2305843009213693921) ((m + 1000381 * (c + 1)) % 2305843009213693951) := fun i => .inr ⟨by omega, by omega⟩
    refine ⟨_, rfl, _, rfl, _, _, rfl, rfl, cm _, _, _, rfl, rfl, (show (0:Int) < 2305843009213693921 by decide), ?_⟩
    refine ⟨_, rfl, _, _, rfl, rfl, cn _, _, rfl, .inl ⟨a, _, _, _, rfl, rfl, S1, atI_nat (j := 2) rfl, _, _, rfl, rfl, .inl ⟨by decide, by decide⟩, _, _, rfl, rfl, ?_⟩⟩
    refine ⟨_, rfl, _, _, rfl, rfl, (show (0:Int) < 2305843009213693907 by decide), ?_⟩
    refine ⟨_, rfl, _, _, rfl, rfl, ⟨by decide, by decide⟩, _, rfl, _, _, rfl, rfl, h0, .inl ⟨_, rfl, ?_⟩⟩
    exact k _ _ (Int.emod_nonneg _ (by omega)) (Int.emod_lt_of_pos _ h0) ⟨_, _, _, h2⟩ off
theorem pure_one {K : PySem.W.Frag} (vs : List V) (H : Hp) (Q : VK) (E : XK) (h : spOne K vs H Q E) :
    tRet (tOp (rIx K) (tVar 1) (tCall spRoll [] E0 (tCons (tVar 0) (tCons (tCB (rLenQ K) (tCons (tVar 1) tNil)) tNil)))) { nx := fun _ H' => Q .non H', rt := Q } (start ["_law_dice_here", "_law_items"] vs) H := by
  obtain ⟨a, b, xs, rfl, hd, hb, hx, h0, h1, k⟩ := h
  refine ⟨_, rfl, _, rfl, _, rfl, b, xs, rfl, hx, ?_⟩
  refine ⟨a, xs.length, rfl, hd, by omega, by omega, fun r H' r0 r1 d' off => ?_⟩
  obtain ⟨j, rfl⟩ := Int.eq_ofNat_of_zero_le r0
  have hj : j < xs.length := by omega
  have hg : xs[j]? = some xs[j] := by simp [hj]
  have hs : SqL K H' b xs ∨ SqT K H' b xs := by
    rcases hx with ((h | ⟨o, h⟩) | h) | ((h | ⟨o, h⟩) | h)
    · exact .inl (.inl (.inl (by rw [off b hb]; exact h)))
    · exact .inl (.inl (.inr ⟨o, by rw [off b hb]; exact h⟩))
    · exact .inl (.inr h)
    · exact .inr (.inl (.inl (by rw [off b hb]; exact h)))
    · exact .inr (.inl (.inr ⟨o, by rw [off b hb]; exact h⟩))
    · exact .inr (.inr h)
  rcases hs with hs | hs
  · exact .inl ⟨b, _, _, _, rfl, rfl, hs, atI_nat hg, k j _ H' hg d' off⟩
  · exact .inr (.inl ⟨b, _, _, _, rfl, rfl, hs, atI_nat hg, k j _ H' hg d' off⟩)
abbrev rPowW : R2 := rI CPowW fun i j => .int (i ^ j.toNat)
abbrev rDivW : R2 := rI CDivW fun i j => .int (i / j)
def rAbs : List V → Hp → VK → Prop := fun xs H Q => ∃ i, xs = [.int i] ∧ Q (.int (if i < 0 then -i else i)) H
theorem hAbs {X : Cx} : CallR X (.builtin "abs") rAbs := call_abs
abbrev tPow (i j : Int) : TE := tOp rPowW (tC (.int i)) (tC (.int j))
def t_dice (K : PySem.W.Frag) : TS :=
  tSeq (tAsg (tOp rAdd (tOp rMul (tC (.int 101)) (tVar 1)) (tC (.int 47))) (gName 2)) <|
  tSeq (tIfS (tTest (tOp (rI0 fun i j => .bl (decide (i < j))) (tVar 1) (tCB (rLenQ K) (tCons (tVar 0) tNil)))) (tAsg (tOp (rIx K) (tVar 0) (tVar 1)) (gName 2)) tNext) <|
  tSeq (tAsg (tOp rMod (tCB rInt1 (tCons (tCB rAbs (tCons (tVar 2) tNil)) tNil)) (tOp rPowW (tPow 10 60) (tC (.int 10)))) (gName 3)) <|
  tSeq (tAsg (tOp rDivW (tVar 3) (tPow 10 18)) (gName 4)) <|
  tSeq (tAsg (tOp rAdd (tOp rAdd (tOp rAdd (tOp rMul (tOp rMod (tVar 3) (tC (.int 2147482621))) (tC (.int 60497))) (tOp rMul (tC (.int 3541)) (tVar 1))) (tOp rMul (tC (.int 89)) (tCB rInt1 (tCons (tOp (rI0 fun i j => .bl (decide (i < j))) (tVar 2) (tC (.int 0))) tNil)))) (tC (.int 127))) (gName 5)) <|
  tRet (tLst (tCons (tVar 4) (tCons (tOp rMod (tVar 5) (tC (.int 2147482583))) (tCons (tC (.int 0)) tNil))))
theorem p60 : (10 : Int) ^ (60 : Int).toNat = 10 ^ 60 := rfl
theorem cpow1 (j : Int) (h : j = 60 ∨ j = 18) : CPowW 10 j := by rcases h with rfl | rfl <;> exact ⟨by decide, by decide, by decide, by decide, by decide +kernel⟩
theorem cpow2 : CPowW ((10 : Int) ^ (60 : Int).toNat) 10 := ⟨by decide, by decide +kernel, by decide +kernel, by decide +kernel, by decide +kernel⟩
theorem pos2 : (0 : Int) < ((10 : Int) ^ (60 : Int).toNat) ^ (10 : Int).toNat := by decide +kernel
theorem cdw : ∀ i, CDivW i ((10 : Int) ^ (18 : Int).toNat) := fun _ => ⟨by decide +kernel, by decide +kernel⟩
theorem pure_dice {K : PySem.W.Frag} (vs : List V) (H : Hp) (Q : VK) (E : XK) (h : spDice K vs H Q E) :
    t_dice K { nx := fun _ H' => Q .non H', rt := Q } (start ["_law_script", "_law_at", "_law_cell", "_law_great", "_law_left", "_law_mixed"] vs) H := by
  obtain ⟨b, ns, i, rfl, hs, h0, h1, k⟩ := h
  refine ⟨_, rfl, _, _, rfl, rfl, .inl ⟨by decide, by decide⟩, _, _, rfl, rfl, ?_⟩
  refine ⟨_, rfl, _, rfl, b, _, rfl, .inl hs, _, _, rfl, rfl, _, rfl, ?_⟩
  have key : ∀ z : Int, ∀ D' : Ends, D'.rt = Q → tSeq (tAsg (tOp rMod (tCB rInt1 (tCons (tCB rAbs (tCons (tVar 2) tNil)) tNil)) (tOp rPowW (tPow 10 60) (tC (.int 10)))) (gName 3)) (
      tSeq (tAsg (tOp rDivW (tVar 3) (tPow 10 18)) (gName 4)) <|
      tSeq (tAsg (tOp rAdd (tOp rAdd (tOp rAdd (tOp rMul (tOp rMod (tVar 3) (tC (.int 2147482621))) (tC (.int 60497))) (tOp rMul (tC (.int 3541)) (tVar 1))) (tOp rMul (tC (.int 89)) (tCB rInt1 (tCons (tOp (rI0 fun i j => .bl (decide (i < j))) (tVar 2) (tC (.int 0))) tNil)))) (tC (.int 127))) (gName 5)) <|
      tRet (tLst (tCons (tVar 4) (tCons (tOp rMod (tVar 5) (tC (.int 2147482583))) (tCons (tC (.int 0)) tNil))))) D' [some (.ref b), some (.int i), some (.int z), none, none, none] H := fun z D' hD => by
    refine ⟨_, rfl, _, rfl, .inl ⟨_, rfl, _, _, rfl, rfl, cpow1 _ (.inl rfl), _, _, rfl, rfl, cpow2, _, _, rfl, rfl, pos2, ?_⟩⟩
    refine ⟨_, rfl, _, _, rfl, rfl, cpow1 _ (.inr rfl), _, _, rfl, rfl, cdw _, ?_⟩
    refine ⟨_, rfl, _, _, rfl, rfl, (show (0:Int) < 2147482621 by decide), _, _, rfl, rfl, .inr ⟨by decide, by decide⟩, _, rfl, _, _, rfl, rfl, .inl ⟨by decide, by decide⟩, _, _, rfl, rfl, ?_⟩
    refine ⟨_, rfl, _, _, rfl, rfl, .inr ⟨_, rfl, _, _, rfl, rfl, .inl ⟨by decide, by decide⟩, _, _, rfl, rfl, _, _, rfl, rfl, ?_⟩⟩
    refine ⟨_, rfl, _, rfl, _, _, rfl, rfl, (show (0:Int) < 2147482583 by decide), (by show 3 ≤ sizeLine; decide), fun p hp => ?_⟩
    rw [hD]
    exact k p _ hp ⟨_, _, _, upd_same⟩ (Off.refl _ _).upd
  by_cases hl : i < ((ns.map V.int).length : Int)
  · refine Eq.mpr (if_pos (decide_eq_true hl)) ?_
    obtain ⟨j, rfl⟩ := Int.eq_ofNat_of_zero_le h0
    rw [List.length_map] at hl
    have hj : j < ns.length := by omega
    refine ⟨_, rfl, _, rfl, .inl ⟨b, _, _, _, rfl, rfl, hs, atI_nat (j := j) (v := .int ns[j]) (by rw [List.getElem?_map]; simp [hj]), ?_⟩⟩
    exact key _ _ rfl
  · refine Eq.mpr (if_neg (by rw [decide_eq_false hl]; exact Bool.false_ne_true)) ?_
    exact key _ _ rfl
end DN

/-! a state with dice: slot 0 is their address; what does not read slot 0 may be reckoned without it -/
namespace DN
open PySem PySem.Spec PyProof.Rows L2 DL

/-! ### readings that leave slot 0 alone -/
inductive F0 where
  | nx (ρ : DS) | bk (ρ : DS) | ct (ρ : DS) | rt (d : D)
def F0.at (s : SV) : F0 → Fl
  | .nx ρ => .nx (s :: ρ)
  | .bk ρ => .bk (s :: ρ)
  | .ct ρ => .ct (s :: ρ)
  | .rt d => .rt d
def Irr {α : Type} (m : M α) : Prop := ∀ ρ, ∃ R : Option α, ∀ s, m (s :: ρ) = R
def IrF (m : M Fl) : Prop := ∀ ρ, ∃ R : Option F0, ∀ s, m (s :: ρ) = R.map (F0.at s)
def IrS (st : DS → D → Option DS) : Prop := ∀ ρ d, ∃ R : Option DS, ∀ s, st (s :: ρ) d = R.map (s :: ·)
def IrSs (st : DS → List D → Option DS) : Prop := ∀ ρ d, ∃ R : Option DS, ∀ s, st (s :: ρ) d = R.map (s :: ·)
theorem Irr.at {α : Type} {m : M α} (h : Irr m) {ρ : DS} {v : Option α} (e : m (.unk :: ρ) = v) (s : SV) : m (s :: ρ) = v := by
  obtain ⟨R, hR⟩ := h ρ
  rw [hR] at e ⊢
  exact e
theorem IrF.nx {m : M Fl} (h : IrF m) {ρ ρ' : DS} {s0 : SV} (e : m (.unk :: ρ) = some (.nx (s0 :: ρ'))) (s : SV) : m (s :: ρ) = some (.nx (s :: ρ')) := by
  obtain ⟨R, hR⟩ := h ρ
  rw [hR] at e ⊢
  cases R with
  | none => cases e
  | some r =>
    cases r with
    | nx q =>
      have e : some (Fl.nx (.unk :: q)) = some (.nx (s0 :: ρ')) := e
      cases e; rfl
    | _ => cases e
theorem IrF.rt {m : M Fl} (h : IrF m) {ρ : DS} {d : D} (e : m (.unk :: ρ) = some (.rt d)) (s : SV) : m (s :: ρ) = some (.rt d) := by
  obtain ⟨R, hR⟩ := h ρ
  rw [hR] at e ⊢
  cases R with
  | none => cases e
  | some r =>
    cases r with
    | rt q =>
      have e : some (Fl.rt q) = some (.rt d) := e
      cases e; rfl
    | _ => cases e
section
variable {α β : Type}
theorem ir_bind {m : M α} {f : α → Option β} (h : Irr m) : Irr (fun δ => (m δ).bind f) := fun ρ => by
  obtain ⟨R, hR⟩ := h ρ
  exact ⟨R.bind f, fun s => by show (m (s :: ρ)).bind f = _; rw [hR]⟩
theorem ir_bind2 {m : M α} {n : α → M β} (h : Irr m) (k : ∀ a, Irr (n a)) : Irr (fun δ => (m δ).bind fun a => n a δ) := fun ρ => by
  obtain ⟨R, hR⟩ := h ρ
  cases R with
  | none => exact ⟨none, fun s => by show (m (s :: ρ)).bind _ = _; rw [hR]; rfl⟩
  | some a =>
    obtain ⟨R2, hR2⟩ := k a ρ
    exact ⟨R2, fun s => by show (m (s :: ρ)).bind _ = _; rw [hR]; exact hR2 s⟩
theorem ir_const (v : Option α) : Irr (fun _ => v) := fun _ => ⟨v, fun _ => rfl⟩
end
theorem ir_fro (i : Nat) : Irr (mFro (i + 1)) := fun ρ => ⟨_, fun s => by unfold mFro; rw [List.getElem?_cons_succ]⟩
theorem ir_any (i : Nat) : Irr (mAny (i + 1)) := fun ρ => ⟨_, fun s => by unfold mAny; rw [List.getElem?_cons_succ]⟩
theorem ir_c (d : D) : Irr (mC d) := ir_const _
theorem ir_nil : Irr mNil := ir_const _
theorem ir_cons {m : M D} {n : M (List D)} (h : Irr m) (k : Irr n) : Irr (mCons m n) := ir_bind2 (n := fun d δ => (n δ).map fun ds => d :: ds) h fun d ρ => by
  obtain ⟨R, hR⟩ := k ρ
  exact ⟨R.map (d :: ·), fun s => by show (n (s :: ρ)).map _ = _; rw [hR]⟩
theorem ir_tup {n : M (List D)} (h : Irr n) : Irr (mTup n) := ir_bind h
theorem ir_lst {n : M (List D)} (h : Irr n) : Irr (mLst n) := ir_bind h
theorem ir_m2 {f : D → D → Option D} {a b : M D} (h : Irr a) (k : Irr b) : Irr (m2 f a b) := ir_bind2 (n := fun x δ => (b δ).bind fun y => f x y) h fun _ => ir_bind k
theorem ir_m3 {f : D → D → D → Option D} {a b c : M D} (h : Irr a) (k : Irr b) (l : Irr c) : Irr (m3 f a b c) :=
  ir_bind2 (n := fun x δ => (b δ).bind fun y => (c δ).bind fun z => f x y z) h fun x => ir_bind2 (n := fun y δ => (c δ).bind fun z => f x y z) k fun _ => ir_bind l
theorem ir_call {n : Nat} {r : List D → Option D} {m : M (List D)} (h : Irr m) : Irr (mCall n r m) := ir_bind h
theorem ir_b {f : List D → Option D} {m : M (List D)} (h : Irr m) : Irr (mB f m) := ir_bind h
theorem ir_f {f : D → Option D} {m : M D} (h : Irr m) : Irr (mF f m) := ir_bind h
theorem ir_bool {m : M D} (h : Irr m) : Irr (mBool m) := ir_bind h
theorem ir_not {m : M Bool} (h : Irr m) : Irr (mNot m) := fun ρ => by
  obtain ⟨R, hR⟩ := h ρ
  exact ⟨R.map _, fun s => by show (m (s :: ρ)).map _ = _; rw [hR]⟩
theorem ir_or {m n : M Bool} (h : Irr m) (k : Irr n) : Irr (mOr m n) := ir_bind2 (n := fun (b : Bool) => (fun δ => if b then some true else n δ : M Bool)) h fun b => by
  cases b with
  | true => exact ir_const _
  | false => exact k
theorem ir_and {m n : M Bool} (h : Irr m) (k : Irr n) : Irr (mAnd m n) := ir_bind2 (n := fun (b : Bool) => (fun δ => if b then n δ else some false : M Bool)) h fun b => by
  cases b with
  | false => exact ir_const _
  | true => exact k
theorem ir_itl {m : M D} (h : Irr m) : Irr (mItL m) := ir_bind h
theorem ir_itt {m : M D} (h : Irr m) : Irr (mItT m) := ir_bind h
theorem ir_rng {m : M (List D)} (h : Irr m) : Irr (mRng m) := ir_bind h
theorem irs_n (i : Nat) : IrS (stN (i + 1)) := fun ρ d => ⟨some (ρ.set i (.fro d)), fun s => rfl⟩
theorem irss_nil : IrSs stNil := fun ρ ds => by
  cases ds with
  | nil => exact ⟨some ρ, fun s => rfl⟩
  | cons _ _ => exact ⟨none, fun s => rfl⟩
theorem irss_cons {a : DS → D → Option DS} {b : DS → List D → Option DS} (h : IrS a) (k : IrSs b) : IrSs (stCons a b) := fun ρ ds => by
  cases ds with
  | nil => exact ⟨none, fun s => rfl⟩
  | cons d ds =>
    obtain ⟨R, hR⟩ := h ρ d
    cases R with
    | none => exact ⟨none, fun s => by unfold stCons; simp only [hR]; rfl⟩
    | some ρ1 =>
      obtain ⟨R2, hR2⟩ := k ρ1 ds
      exact ⟨R2, fun s => by unfold stCons; simp only [hR, Option.map_some, Option.bind_some]; exact hR2 s⟩
theorem irs_tup {n : Nat} {b : DS → List D → Option DS} (k : IrSs b) : IrS (stTup n b) := fun ρ d => by
  cases q : tupD d with
  | none => exact ⟨none, fun s => by unfold stTup; rw [q]; rfl⟩
  | some ds =>
    by_cases hl : ds.length = n
    · obtain ⟨R, hR⟩ := k ρ ds
      exact ⟨R, fun s => by unfold stTup; rw [q]; show (if ds.length = n then b (s :: ρ) ds else none) = _; rw [if_pos hl, hR]⟩
    · exact ⟨none, fun s => by unfold stTup; rw [q]; show (if ds.length = n then b (s :: ρ) ds else none) = _; rw [if_neg hl]; rfl⟩
/-! statements -/
theorem if_next : IrF mNext := fun ρ => ⟨some (.nx ρ), fun _ => rfl⟩
theorem if_stop : IrF mStop := fun ρ => ⟨none, fun _ => rfl⟩
theorem if_ret {m : M D} (h : Irr m) : IrF (mRet m) := fun ρ => by
  obtain ⟨R, hR⟩ := h ρ
  exact ⟨R.map .rt, fun s => by show (m (s :: ρ)).map _ = _; rw [hR, Option.map_map]; rfl⟩
theorem if_seq {m n : M Fl} (h : IrF m) (k : IrF n) : IrF (mSeq m n) := fun ρ => by
  obtain ⟨R, hR⟩ := h ρ
  cases R with
  | none => exact ⟨none, fun s => by unfold mSeq; rw [hR]; rfl⟩
  | some r =>
    cases r with
    | nx ρ1 =>
      obtain ⟨R2, hR2⟩ := k ρ1
      exact ⟨R2, fun s => by unfold mSeq; rw [hR]; exact hR2 s⟩
    | bk ρ1 => exact ⟨some (.bk ρ1), fun s => by unfold mSeq; rw [hR]; rfl⟩
    | ct ρ1 => exact ⟨some (.ct ρ1), fun s => by unfold mSeq; rw [hR]; rfl⟩
    | rt d => exact ⟨some (.rt d), fun s => by unfold mSeq; rw [hR]; rfl⟩
theorem if_if {m : M Bool} {a b : M Fl} (h : Irr m) (ka : IrF a) (kb : IrF b) : IrF (mIf m a b) := fun ρ => by
  obtain ⟨R, hR⟩ := h ρ
  cases R with
  | none => exact ⟨none, fun s => by unfold mIf; rw [hR]; rfl⟩
  | some t =>
    cases t with
    | true =>
      obtain ⟨R2, hR2⟩ := ka ρ
      exact ⟨R2, fun s => by unfold mIf; rw [hR]; exact hR2 s⟩
    | false =>
      obtain ⟨R2, hR2⟩ := kb ρ
      exact ⟨R2, fun s => by unfold mIf; rw [hR]; exact hR2 s⟩
theorem if_asg {m : M D} {st : DS → D → Option DS} (h : Irr m) (k : IrS st) : IrF (mAsg m st) := fun ρ => by
  obtain ⟨R, hR⟩ := h ρ
  cases R with
  | none => exact ⟨none, fun s => by unfold mAsg; rw [hR]; rfl⟩
  | some d =>
    obtain ⟨R2, hR2⟩ := k ρ d
    cases R2 with
    | none => exact ⟨none, fun s => by unfold mAsg; rw [hR]; show (st (s :: ρ) d).map _ = _; rw [hR2]; rfl⟩
    | some ρ2 => exact ⟨some (.nx ρ2), fun s => by unfold mAsg; rw [hR]; show (st (s :: ρ) d).map _ = _; rw [hR2]; rfl⟩
theorem if_own (i : Nat) {m : M D} (h : Irr m) : IrF (mOwn (i + 1) m) := fun ρ => by
  obtain ⟨R, hR⟩ := h ρ
  cases R with
  | none => exact ⟨none, fun s => by unfold mOwn; rw [hR]; rfl⟩
  | some d =>
    cases q : isOwnD d with
    | true => exact ⟨some (.nx (ρ.set i (.own d))), fun s => by unfold mOwn; rw [hR]; show (if isOwnD d = true then _ else _) = _; rw [q]; rfl⟩
    | false => exact ⟨none, fun s => by unfold mOwn; rw [hR]; show (if isOwnD d = true then _ else _) = _; rw [q]; rfl⟩
theorem wipe_cons (s : SV) (ρ : DS) : ∀ vs : List Nat, wipeD (s :: ρ) (vs.map (· + 1)) = s :: wipeD ρ vs
  | [] => rfl
  | v :: vs => by
    show (wipeD (s :: ρ) (vs.map (· + 1))).set (v + 1) SV.unk = _
    rw [wipe_cons s ρ vs]; rfl
theorem loopC_irr {st : DS → D → Option DS} {t : M Bool} {m : M D} (hs : IrS st) (ht : Irr t) (hm : Irr m) (ρ : DS) : ∀ ds : List D, ∃ R : Option (List D), ∀ s, loopC st t m (s :: ρ) ds = R
  | [] => ⟨some [], fun _ => rfl⟩
  | d :: ds => by
    obtain ⟨R, hR⟩ := loopC_irr hs ht hm ρ ds
    obtain ⟨R1, h1⟩ := hs ρ d
    cases R1 with
    | none => exact ⟨none, fun s => by unfold loopC; rw [h1]; rfl⟩
    | some ρ1 =>
      obtain ⟨R2, h2⟩ := ht ρ1
      cases R2 with
      | none => exact ⟨none, fun s => by unfold loopC; rw [h1]; dsimp only [Option.map_some]; rw [h2]⟩
      | some b =>
        cases b with
        | false => exact ⟨R, fun s => by unfold loopC; rw [h1]; dsimp only [Option.map_some]; rw [h2]; exact hR s⟩
        | true =>
          obtain ⟨R3, h3⟩ := hm ρ1
          cases R3 with
          | none => exact ⟨none, fun s => by unfold loopC; rw [h1]; dsimp only [Option.map_some]; rw [h2]; dsimp only; rw [h3]⟩
          | some y => exact ⟨R.map (y :: ·), fun s => by unfold loopC; rw [h1]; dsimp only [Option.map_some]; rw [h2]; dsimp only; rw [h3]; dsimp only; rw [hR s]⟩
theorem ir_lc (vs : List Nat) {w : M (List D)} {st : DS → D → Option DS} {t : M Bool} {m : M D} (hw : Irr w) (hs : IrS st) (ht : Irr t) (hm : Irr m) : Irr (mLc (vs.map (· + 1)) w st t m) :=
  ir_bind2 (n := fun (ds : List D) => (fun δ => if decide (ds.length < sizeLine) then (loopC st t m (wipeD δ (vs.map (· + 1))) ds).map D.lst else none : M D)) hw fun ds ρ => by
    obtain ⟨R, hR⟩ := loopC_irr hs ht hm (wipeD ρ vs) ds
    exact ⟨if decide (ds.length < sizeLine) then R.map D.lst else none, fun s => by dsimp only; rw [wipe_cons, hR]⟩
theorem ir_lc1 (v : Nat) {w : M (List D)} {st : DS → D → Option DS} {t : M Bool} {m : M D} (hw : Irr w) (hs : IrS st) (ht : Irr t) (hm : Irr m) : Irr (mLc [v + 1] w st t m) := ir_lc [v] hw hs ht hm
theorem loopF_irr {st : DS → D → Option DS} {b : M Fl} (hs : IrS st) (hb : IrF b) : ∀ (ds : List D) (ρ : DS), ∃ R : Option F0, ∀ s, loopF st b ds (s :: ρ) = R.map (F0.at s)
  | [], ρ => ⟨some (.nx ρ), fun _ => rfl⟩
  | d :: ds, ρ => by
    obtain ⟨R1, h1⟩ := hs ρ d
    cases R1 with
    | none => exact ⟨none, fun s => by unfold loopF; rw [h1]; rfl⟩
    | some ρ1 =>
      obtain ⟨R2, h2⟩ := hb ρ1
      cases R2 with
      | none => exact ⟨none, fun s => by unfold loopF; rw [h1]; dsimp only [Option.map_some]; rw [h2]; rfl⟩
      | some f =>
        cases f with
        | nx ρ2 =>
          obtain ⟨R, hR⟩ := loopF_irr hs hb ds ρ2
          exact ⟨R, fun s => by unfold loopF; rw [h1]; dsimp only [Option.map_some]; rw [h2]; exact hR s⟩
        | ct ρ2 =>
          obtain ⟨R, hR⟩ := loopF_irr hs hb ds ρ2
          exact ⟨R, fun s => by unfold loopF; rw [h1]; dsimp only [Option.map_some]; rw [h2]; exact hR s⟩
        | bk ρ2 => exact ⟨some (.nx ρ2), fun s => by unfold loopF; rw [h1]; dsimp only [Option.map_some]; rw [h2]; rfl⟩
        | rt v => exact ⟨some (.rt v), fun s => by unfold loopF; rw [h1]; dsimp only [Option.map_some]; rw [h2]; rfl⟩
theorem if_for {m : M (List D)} {st : DS → D → Option DS} {b : M Fl} (h : Irr m) (hs : IrS st) (hb : IrF b) : IrF (mFor m st b) := fun ρ => by
  obtain ⟨R, hR⟩ := h ρ
  cases R with
  | none => exact ⟨none, fun s => by unfold mFor; rw [hR]; rfl⟩
  | some ds =>
    obtain ⟨R2, h2⟩ := loopF_irr hs hb ds ρ
    exact ⟨R2, fun s => by unfold mFor; rw [hR]; exact h2 s⟩
theorem if_put (i : Nat) {mk mv : M D} (hk : Irr mk) (hv : Irr mv) : IrF (mPut (i + 1) mk mv) := fun ρ => by
  obtain ⟨Rv, hv⟩ := hv ρ
  obtain ⟨Rk, hk⟩ := hk ρ
  cases Rv with
  | none => exact ⟨none, fun s => by unfold mPut; rw [hv]; rfl⟩
  | some y =>
    cases q : ownAt (i + 1) (SV.unk :: ρ) with
    | none => exact ⟨none, fun s => by unfold mPut; rw [hv]; have : ownAt (i + 1) (s :: ρ) = none := q; show ((ownAt (i + 1) (s :: ρ)).bind _) = _; rw [this]; rfl⟩
    | some d =>
      cases Rk with
      | none => exact ⟨none, fun s => by unfold mPut; rw [hv]; have : ownAt (i + 1) (s :: ρ) = some d := q; show ((ownAt (i + 1) (s :: ρ)).bind _) = _; rw [this, hk]; rfl⟩
      | some e =>
        refine ⟨if smallD d then (putD d e y).map fun d' => .nx (ρ.set i (.own d')) else none, fun s => ?_⟩
        unfold mPut
        rw [hv]
        have : ownAt (i + 1) (s :: ρ) = some d := q
        show ((ownAt (i + 1) (s :: ρ)).bind _) = _
        rw [this, hk]
        show (if smallD d = true then _ else _) = _
        cases smallD d with
        | true => simp only [if_true, Option.map_map]; rfl
        | false => rfl
theorem ir_pairs : ∀ {ms : List (M D × M D)}, (∀ p ∈ ms, Irr p.1 ∧ Irr p.2) → Irr (mPairs ms)
  | [], _ => ir_const _
  | (a, b) :: ms, h => by
    have h1 := (h (a, b) List.mem_cons_self)
    have h2 := ir_pairs (ms := ms) fun p hp => h p (List.mem_cons_of_mem _ hp)
    intro ρ
    obtain ⟨R1, e1⟩ := (show Irr a from h1.1) ρ
    obtain ⟨R2, e2⟩ := (show Irr b from h1.2) ρ
    obtain ⟨R3, e3⟩ := h2 ρ
    exact ⟨_, fun s => by unfold mPairs; rw [e1, e2, e3]⟩
theorem ir_disp {ms : List (M D × M D)} (h : ∀ p ∈ ms, Irr p.1 ∧ Irr p.2) : Irr (mDisp ms) := ir_bind (ir_pairs h)
end DN

namespace DN
open PySem PySem.Spec PyProof.Rows L2 DL
def dice (l m k : Int) : HO := .lst [.int l, .int m, .int k]
/-- the state of a def that holds dice at slot 0 -/
def DR (K : PySem.W.Frag) (F0 H0 : Hp) (a : Addr) (F H : Hp) (σ : L2.St) (ρ : DS) : Prop := F0 a = none ∧ ∃ l m k, SR K F0 (L2.upd H0 a (dice l m k)) F H σ (.fro (.cst a) :: ρ)
section
variable {K : PySem.W.Frag} {F0 H0 F H F' H' : Hp} {a : Addr} {σ : L2.St} {ρ ρ' : DS}
theorem DR.at (S : DR K F0 H0 a F H σ ρ) : DiceAt H a := by
  obtain ⟨_, l, m, k, S⟩ := S
  exact ⟨l, m, k, S.ext.h a _ upd_same⟩
theorem DR.fr (S : DR K F0 H0 a F H σ ρ) : F a = none := by
  obtain ⟨h0, l, m, k, S⟩ := S
  exact S.ext.n a (dice l m k) h0 upd_same rfl
theorem DR.s (S : DR K F0 H0 a F H σ ρ) : Same F H := by
  obtain ⟨h0, l, m, k, S⟩ := S
  exact S.sFH
theorem DR.slot (S : DR K F0 H0 a F H σ ρ) : σ[0]? = some (some (.ref a)) := by
  obtain ⟨h0, l, m, k, S⟩ := S
  obtain ⟨v, h1, h2⟩ := S.fro 0 (.cst a) rfl
  rw [rp_cst h2] at h1
  exact h1
theorem DR.fro (S : DR K F0 H0 a F H σ ρ) {i : Nat} {d : D} (h : ρ[i]? = some (.fro d)) : ∃ v, σ[i + 1]? = some (some v) ∧ Rp K F v d := by
  obtain ⟨h0, l, m, k, S⟩ := S
  exact S.fro (i + 1) d (by rw [List.getElem?_cons_succ]; exact h)
theorem DR.up (S : DR K F0 H0 a F H σ ρ) (x : Ext F H F' H') : DR K F0 H0 a F' H' σ ρ := by
  obtain ⟨h0, l, m, k, S⟩ := S
  exact ⟨h0, l, m, k, S.up x⟩
theorem DR.set (S : DR K F0 H0 a F H σ ρ) {i : Nat} {v : V} {d : D} (r : Rp K F v d) : DR K F0 H0 a F H (σ.set (i + 1) (some v)) (ρ.set i (.fro d)) := by
  obtain ⟨h0, l, m, k, S⟩ := S
  exact ⟨h0, l, m, k, S.set (i := i + 1) r⟩
theorem SR.forget {δ : DS} (S : SR K F0 H0 F H σ δ) (i : Nat) : SR K F0 H0 F H σ (δ.set i .unk) where
  ext := S.ext
  len := by rw [List.length_set]; exact S.len
  fro := fun j d h => by
    rcases set_get h with ⟨_, q⟩ | ⟨_, q⟩
    · cases q
    · exact S.fro j d q
  own := fun j d h => by
    rcases set_get h with ⟨_, q⟩ | ⟨_, q⟩
    · cases q
    · exact S.own j d q
  nt := fun j d h => by
    rcases set_get h with ⟨_, q⟩ | ⟨_, q⟩
    · cases q
    · exact S.nt j d q
  dis := fun j k b d e h1 h2 g1 g2 => by
    rcases set_get h1 with ⟨_, q1⟩ | ⟨_, q1⟩
    · cases q1
    rcases set_get h2 with ⟨_, q2⟩ | ⟨_, q2⟩
    · cases q2
    exact S.dis j k b d e q1 q2 g1 g2
theorem DR.forget (S : DR K F0 H0 a F H σ ρ) (i : Nat) : DR K F0 H0 a F H σ (ρ.set i .unk) := by
  obtain ⟨h0, l, m, k, S⟩ := S
  exact ⟨h0, l, m, k, SR.forget S (i + 1)⟩
/-- something is drawn: the dice change, all else grows -/
theorem DR.draw (S : DR K F0 H0 a F H σ ρ) (x : Ext F (hideH a H) F' (hideH a H')) (d : DiceAt H' a) (f : F' a = none) : DR K F0 H0 a F' H' σ ρ := by
  have hF := S.fr
  obtain ⟨h0, l, m, k, S⟩ := S
  obtain ⟨l', m', k', d⟩ := d
  have ne : ∀ {b : Addr}, b ≠ a → ∀ (H : Hp), hideH a H b = H b := fun hb H => by unfold hideH; rw [if_neg hb]
  refine ⟨h0, l', m', k', ⟨⟨fun b u e => x.f b u (S.ext.f b u e), fun b u e => ?_, fun b u e => ?_, fun b u e1 e2 e3 => ?_⟩, S.len, fun i d e => ?_, fun i d e => ?_, S.nt, S.dis⟩⟩
  · by_cases hb : b = a
    · subst hb; rw [upd_same] at e; cases e; exact d
    · rw [upd_ne hb] at e
      have := x.h b u (by rw [ne hb]; exact S.ext.h b u (by rw [upd_ne hb]; exact e))
      rw [ne hb] at this; exact this
  · have hb : b ≠ a := fun z => by subst z; rw [f] at e; cases e
    have := x.s b u e
    rw [ne hb] at this; exact this
  · by_cases hb : b = a
    · subst hb; exact f
    · rw [upd_ne hb] at e2
      have h1 := S.ext.n b u e1 (by rw [upd_ne hb]; exact e2) e3
      exact x.n b u h1 (by rw [ne hb]; exact S.ext.h b u (by rw [upd_ne hb]; exact e2)) e3
  · obtain ⟨v, h1, h2⟩ := S.fro i d e
    exact ⟨v, h1, h2.mono x.f⟩
  · obtain ⟨b, o, h1, h2, h3, h4, h5⟩ := S.own i d e
    have hb : b ≠ a := fun z => by subst z; rw [upd_same] at h4; cases h4
    rw [upd_ne hb] at h4
    refine ⟨b, o, h1, ?_, x.n b o h3 (by rw [ne hb]; exact h2) (tupO_own h5 (S.nt i d e)), by rw [upd_ne hb]; exact h4, h5.mono x.f⟩
    have := x.h b o (by rw [ne hb]; exact h2)
    rw [ne hb] at this; exact this
theorem ext_off (s : Same F H) (hF : F a = none) (o : Off a H H') : Ext F (hideH a H) F (hideH a H') := by
  have e : hideH a H' = hideH a H := by
    funext b
    by_cases hb : b = a
    · unfold hideH; rw [if_pos hb, if_pos hb]
    · unfold hideH; rw [if_neg hb, if_neg hb, o b hb]
  rw [e]
  refine Ext.refl fun b u h => ?_
  have hb : b ≠ a := fun z => by subst z; rw [hF] at h; cases h
  unfold hideH
  rw [if_neg hb]
  exact s b u h
theorem DR.off (S : DR K F0 H0 a F H σ ρ) (o : Off a H H') (d : DiceAt H' a) : DR K F0 H0 a F H' σ ρ := S.draw (ext_off S.s S.fr o) d S.fr
theorem DR.start {N : List Str} {ws : List V} {ds : List D} (s : Same F H) (hF : F a = none) (d : DiceAt H a) (r : RpL K F ws ds) : DR K F H a F H (L2.start N (.ref a :: ws)) (initD (N.length - 1) ds) := by
  obtain ⟨l, m, k, d⟩ := d
  refine ⟨hF, l, m, k, ?_⟩
  have e : L2.upd H a (dice l m k) = H := by
    funext b
    by_cases hb : b = a
    · subst hb; rw [upd_same]; exact d.symm
    · rw [upd_ne hb]
  rw [e]
  have h := sr_start (K := K) (N := N) (vs := .ref a :: ws) (ds := .cst a :: ds) s (.cons (.cst a) r)
  have e2 : initD N.length (.cst a :: ds) = .fro (.cst a) :: initD (N.length - 1) ds := by
    unfold initD
    rw [List.map_cons, List.cons_append, List.length_cons]
    congr 3
    omega
  rw [e2] at h
  exact h
/-- a piece that draws nothing -/
theorem DR.ex {t : TE} {m : M D} (hx : ∀ F0 H0, Ex ⟨K, F0, H0⟩ t m) (hi : Irr m) {d : D} (e : m (.unk :: ρ) = some d) (S : DR K F0 H0 a F H σ ρ) {Q : VK} (k : ∀ v F' H', DR K F0 H0 a F' H' σ ρ → Same F F' → Rp K F' v d → Q v H') : t σ H Q := by
  obtain ⟨h0, l, m', k', S⟩ := S
  exact hx _ _ _ σ F H Q d S (hi.at e _) fun v F' H' x r => k v F' H' ⟨h0, l, m', k', S.up x⟩ x.f r
theorem DR.sx {t : TS} {m : M Fl} (hx : ∀ F0 H0, Sx ⟨K, F0, H0⟩ t m) (hi : IrF m) {s0 : SV} (e : m (.unk :: ρ) = some (.nx (s0 :: ρ'))) (S : DR K F0 H0 a F H σ ρ) {En : Ends} (k : ∀ σ' F' H', DR K F0 H0 a F' H' σ' ρ' → Same F F' → En.nx σ' H') : t En σ H := by
  obtain ⟨h0, l, m', k', S⟩ := S
  exact hx _ _ _ σ F H En _ S (hi.nx e _) fun σ' F' H' S' s' => k σ' F' H' ⟨h0, l, m', k', S'⟩ s'
/-- .. and that is the end -/
theorem DR.rt {t : TS} {m : M Fl} (hx : ∀ F0 H0, Sx ⟨K, F0, H0⟩ t m) (hi : IrF m) {d : D} (e : m (.unk :: ρ) = some (.rt d)) (S : DR K F0 H0 a F H σ ρ) {En : Ends} (k : ∀ v F' H', Same (hideH a H0) H' → Rp K F' v d → En.rt v H') : t En σ H := by
  obtain ⟨h0, l, m', k', S⟩ := S
  refine hx _ _ _ σ F H En _ S (hi.rt e _) fun v F' H' x r => k v F' H' (fun b u z => ?_) r
  have hb : b ≠ a := fun z' => by subst z'; unfold hideH at z; rw [if_pos rfl] at z; cases z
  unfold hideH at z
  rw [if_neg hb] at z
  exact x.h b u ((upd_ne hb).trans z)
/-- the end of a def that draws -/
theorem DR.fin (S : DR K F0 H0 a F H σ ρ) : Ext F0 (hideH a H0) F (hideH a H) := by
  have hF := S.fr
  obtain ⟨h0, l, m, k, S⟩ := S
  have ne : ∀ {b : Addr}, b ≠ a → ∀ (H : Hp), hideH a H b = H b := fun hb H => by unfold hideH; rw [if_neg hb]
  refine ⟨S.ext.f, fun b u e => ?_, fun b u e => ?_, fun b u e1 e2 e3 => ?_⟩
  · have hb : b ≠ a := fun z => by subst z; unfold hideH at e; rw [if_pos rfl] at e; cases e
    rw [ne hb] at e ⊢
    exact S.ext.h b u (by rw [upd_ne hb]; exact e)
  · have hb : b ≠ a := fun z => by subst z; rw [hF] at e; cases e
    rw [ne hb]; exact S.ext.s b u e
  · have hb : b ≠ a := fun z => by subst z; unfold hideH at e2; rw [if_pos rfl] at e2; cases e2
    rw [ne hb] at e2
    exact S.ext.n b u e1 (by rw [upd_ne hb]; exact e2) e3
/-! draws -/
theorem DR.roll (S : DR K F0 H0 a F H σ ρ) {n : Int} (h0 : 0 < n) (h1 : n < 1073741824) {Q : VK} {E : XK} (k : ∀ (r : Int) H', 0 ≤ r → r < n → DR K F0 H0 a F H' σ ρ → Q (.int r) H') : spRoll [.ref a, .int n] H Q E :=
  ⟨a, n, rfl, S.at, h0, h1, fun r H' r0 r1 d o => k r H' r0 r1 (S.off o d)⟩
def itemsD : D → List D
  | .lst ds => ds
  | .tup ds => ds
  | _ => []
theorem DR.one (S : DR K F0 H0 a F H σ ρ) {v : V} {d : D} (r : Rp K F v d) (h0 : 0 < (itemsD d).length) (h1 : (itemsD d).length < 1073741824) {Q : VK} {E : XK} (k : ∀ x H' e, e ∈ itemsD d → DR K F0 H0 a F H' σ ρ → Rp K F x e → Q x H') : spOne K [.ref a, v] H Q E := by
  have main : ∀ (b : Addr) (xs : List V) (ds : List D), F b ≠ none → (SqL K H b xs ∨ SqT K H b xs) → RpL K F xs ds → itemsD d = ds → spOne K [.ref a, .ref b] H Q E := fun b xs ds hb hs rl hd => by
    refine ⟨a, b, xs, rfl, S.at, fun z => hb (by rw [z]; exact S.fr), hs, by rw [rl.length, ← hd]; exact h0, by rw [rl.length, ← hd]; exact h1, fun i x H' hx d' o => ?_⟩
    have hl : i < ds.length := by rw [← rl.length]; exact (List.getElem?_eq_some_iff.mp hx).1
    obtain ⟨w, h3, h4⟩ := rl.get (i := i) (d := ds[i]) (by simp [hl])
    rw [hx] at h3; cases h3
    exact k x H' ds[i] (by rw [hd]; exact List.getElem_mem hl) (S.off o d') h4
  cases d with
  | lst ds =>
    obtain ⟨b, xs, rfl, hb, rl⟩ := rp_lst r
    exact main b xs ds (by rw [hb]; simp) (.inl (SqL.of (S.s _ _ hb))) rl rfl
  | tup ds =>
    obtain ⟨b, xs, rfl, hb, rl⟩ := rp_tup r
    exact main b xs ds (by rw [hb]; simp) (.inr (SqT.of (S.s _ _ hb))) rl rfl
  | _ => exact absurd h0 (by simp [itemsD])
/-- a def that draws: R tells what may come -/
def spW (K : PySem.W.Frag) (Pre : List D → Prop) (R : List D → D → Prop) : Sp := fun vs H Q _ => ∃ (a : Addr) (ws : List V) (F : Hp) (ds : List D), vs = .ref a :: ws ∧ DiceAt H a ∧ Same F H ∧ F a = none ∧ RpL K F ws ds ∧ Pre ds ∧
  ∀ d v F' H', R ds d → Ext F (hideH a H) F' (hideH a H') → DiceAt H' a → F' a = none → Rp K F' v d → Q v H'
theorem DR.w {Pre : List D → Prop} {R : List D → D → Prop} (S : DR K F0 H0 a F H σ ρ) {ws : List V} {ds : List D} (r : RpL K F ws ds) (p : Pre ds) {Q : VK} {E : XK} (k : ∀ d v F' H', R ds d → DR K F0 H0 a F' H' σ ρ → Same F F' → Rp K F' v d → Q v H') : spW K Pre R (.ref a :: ws) H Q E :=
  ⟨a, ws, F, ds, rfl, S.at, S.s, S.fr, r, p, fun d v F' H' hr x da fa rv => k d v F' H' hr (S.draw x da fa) x.f rv⟩
end
end DN

/-! equality of values, by the kernel -/
namespace DN
open PySem PySem.Spec L2 DL
mutual
def eqb : D → D → Bool
  | .non, .non => true
  | .bl a, .bl b => a == b
  | .int a, .int b => decide (a = b)
  | .str a, .str b => decide (a = b)
  | .ty a, .ty b => decide (a = b)
  | .cst a, .cst b => Nat.beq a b
  | .tup a, .tup b => eqbs a b
  | .ktup a, .ktup b => eqbs a b
  | .ftup a, .ftup b => eqbs a b
  | .lst a, .lst b => eqbs a b
  | .dct t a c, .dct u b d => (t == u) && eqbs a b && eqbs c d
  | .ins C a c, .ins E b d => Nat.beq C E && decide (a = b) && eqbs c d
  | _, _ => false
def eqbs : List D → List D → Bool
  | [], [] => true
  | a :: as, b :: bs => eqb a b && eqbs as bs
  | _, _ => false
end
mutual
theorem eqb_ok : ∀ {d e : D}, eqb d e = true → d = e
  | .non, e, h => by cases e <;> first | rfl | (simp [eqb] at h)
  | .bl a, e, h => by cases e <;> simp [eqb] at h; rw [h]
  | .int a, e, h => by cases e <;> simp [eqb] at h; rw [h]
  | .str a, e, h => by cases e <;> simp [eqb] at h; rw [h]
  | .ty a, e, h => by cases e <;> simp [eqb] at h; rw [h]
  | .cst a, e, h => by cases e <;> simp [eqb] at h; rw [h]
  | .tup a, e, h => by cases e <;> simp [eqb] at h; rw [eqbs_ok h]
  | .ktup a, e, h => by cases e <;> simp [eqb] at h; rw [eqbs_ok h]
  | .ftup a, e, h => by cases e <;> simp [eqb] at h; rw [eqbs_ok h]
  | .lst a, e, h => by cases e <;> simp [eqb] at h; rw [eqbs_ok h]
  | .dct t a c, e, h => by
    cases e <;> simp [eqb] at h
    rw [h.1.1, eqbs_ok h.1.2, eqbs_ok h.2]
  | .ins t a c, e, h => by
    cases e <;> simp [eqb] at h
    rw [h.1.1, h.1.2, eqbs_ok h.2]
theorem eqbs_ok : ∀ {d e : List D}, eqbs d e = true → d = e
  | [], e, h => by cases e <;> first | rfl | (simp [eqbs] at h)
  | a :: as, e, h => by
    cases e <;> simp [eqbs] at h
    rw [eqb_ok h.1, eqbs_ok h.2]
end
def oeq (a : Option D) (b : D) : Bool := match a with
  | some x => eqb x b
  | none => false
theorem oeq_ok {a : Option D} {b : D} (h : oeq a b = true) : a = some b := by
  cases a with
  | none => cases h
  | some x => rw [eqb_ok (show eqb x b = true from h)]
def eqsv : SV → SV → Bool
  | .unk, .unk => true
  | .fro a, .fro b => eqb a b
  | .own a, .own b => eqb a b
  | _, _ => false
theorem eqsv_ok {a b : SV} (h : eqsv a b = true) : a = b := by
  cases a <;> cases b <;> first
    | rfl
    | (rw [eqb_ok h])
    | cases h
def eqds : DS → DS → Bool
  | [], [] => true
  | a :: as, b :: bs => eqsv a b && eqds as bs
  | _, _ => false
theorem eqds_ok : ∀ {a b : DS}, eqds a b = true → a = b
  | [], [], _ => rfl
  | [], _ :: _, h => by cases h
  | _ :: _, [], h => by cases h
  | a :: as, b :: bs, h => by
    have h : (eqsv a b && eqds as bs) = true := h
    rw [Bool.and_eq_true] at h
    rw [eqsv_ok h.1, eqds_ok h.2]
def nxeq (a : Option Fl) (b : DS) : Bool := match a with
  | some (.nx x) => eqds x b
  | _ => false
theorem nxeq_ok {a : Option Fl} {b : DS} (h : nxeq a b = true) : a = some (.nx b) := by
  unfold nxeq at h
  split at h
  · rw [eqds_ok h]
  · cases h
end DN

namespace K2
open PySem PySem.Spec PyProof.Rows L2 DL
abbrev aG : Addr := 236
abbrev aPR : Addr := 108
structure Txt (K : PySem.W.Frag) : Prop where
  cl : Cls K aG
  n_moves : NoAttr K aG "_moves"
  n_members : NoAttr K aG "_members"
  n_products : NoAttr K aG "_products"
  n_inverses : NoAttr K aG "_inverses"
  h2 : PySem.W.findIn K (.ref aG) "__class__" = some (some (.builtin "object.__class__"))
  h3 : PySem.W.specialIn K (.builtin "object.__class__") "__get__" = some (some (.builtin "getset_descriptor.__get__"))
  h4 : PySem.W.takesIn K (.builtin "object.__class__") = some true
  h5 : PySem.W.mroIn K aG (.type "object") = some true
  kit : PySem.W.kitOne K (.ref aG) (.ref aG) = some true
def top (i : Nat) : Stmt := PySem.Challenge.pw_groupsover_k02_whole_prime_parts_and_wha.main.body.getD i (.Pass ⟨0, 0, 0, 0⟩)
abbrev sis_short : Stmt := top 8
theorem scis_short : FnScope ["number"] ["number"] (defScope sis_short) := ⟨rfl, rfl, rfl, by decide +kernel, rfl, by decide +kernel, by decide +kernel⟩
def mis_short : M Fl := mRet (mChain (fB fun i j => decide (i < j)) (fB fun i j => decide (i < j)) (mF fNeg (mC (.int (10 ^ 60)))) (mAny 0) (mC (.int (10 ^ 60))))
def r_is_short : List D → Option D := runD 1 mis_short
section
variable {P : Program} {w : World} {K : PySem.W.Frag} {mg : Str → Option Value} {base : Heap}
theorem ok_is_short {f : Addr} {fd : FuncData} (F : Fun K "is_short" "is_short" sis_short f fd) (g_FIRST_TOO_LONG : ∃ t, mg "FIRST_TOO_LONG" = some (.int (10 ^ 60) t)) : FnOk P w K mg base CX0 1 f fd ["number"] (spD K 1 r_is_short) := by
  have sc := scis_short
  refine F.ok sc (fun vs H Q E h => spD_len h) (fun cdv A outer s H vs Q E hr h => ?_)
  refine ⟨tRet (tChain (rI0 fun i j => V.bl (decide (i < j))) (rI0 fun i j => V.bl (decide (i < j))) (tUn (rU fun i => .int (-i)) (tC (.int (10 ^ 60)))) (tVar 0) (tC (.int (10 ^ 60)))), pss_one (ps_ret (pe_chain op_lt op_lt (pe_un un_neg (pe_glob rfl g_FIRST_TOO_LONG.choose_spec ⟨_, rfl⟩)) (pv 0) (pe_glob rfl g_FIRST_TOO_LONG.choose_spec ⟨_, rfl⟩))), ?_⟩
  exact body_end (m := mis_short) h (fun F0 H0 => sx_ret (ex_chain (op_rB) (op_rB) ((ex_neg (ex_int (10 ^ 60))).b) (bx_var 0) ((ex_int (10 ^ 60)).b)))
end
abbrev sis_integer : Stmt := top 9
theorem scis_integer : FnScope ["value"] ["value"] (defScope sis_integer) := ⟨rfl, rfl, rfl, by decide +kernel, rfl, by decide +kernel, by decide +kernel⟩
def mis_integer : M Fl := mRet (mAndV (mB (fIsi (isIntD) (isTyD "int") true) (mCons (mAny 0) (mCons (mC (.ty "int")) mNil))) (mAndV (mNotV (mB (fIsi (isIntD) (isTyD "bool") false) (mCons (mAny 0) (mCons (mC (.ty "bool")) mNil)))) (mCall 1 r_is_short (mCons (mFro 0) (mNil)))))
def r_is_integer : List D → Option D := runD 1 mis_integer
section
variable {P : Program} {w : World} {K : PySem.W.Frag} {mg : Str → Option Value} {base : Heap}
theorem ok_is_integer {f : Addr} {fd : FuncData} (F : Fun K "is_integer" "is_integer" sis_integer f fd) (F_is_short : Own P w K mg base 1 "is_short" 1 r_is_short) (z_bool : mg "bool" = none) (z_int : mg "int" = none) (z_isinstance : mg "isinstance" = none) : FnOk P w K mg base CX0 2 f fd ["value"] (spD K 1 r_is_integer) := by
  have sc := scis_integer
  refine F.ok sc (fun vs H Q E h => spD_len h) (fun cdv A outer s H vs Q E hr h => ?_)
  refine ⟨tRet (tAndV (tCB (rIsi K) (tCons (tVar 0) (tCons (tC (.ty "int")) tNil))) (tAndV (tNotV (tCB (rIsi K) (tCons (tVar 0) (tCons (tC (.ty "bool")) tNil)))) (tCall (spD K 1 r_is_short) [] E0 (tCons (tVar 0) (tNil))))), pss_one (ps_ret (pe_and (pe_callB call_isi rfl z_isinstance (by decide +kernel) (pa_cons (pv 0) (pa_cons (pe_bltn rfl z_int (by decide +kernel) rfl) pa_nil))) (pe_and (pe_not (pe_callB call_isi rfl z_isinstance (by decide +kernel) (pa_cons (pv 0) (pa_cons (pe_bltn rfl z_bool (by decide +kernel) rfl) pa_nil)))) (pe_one (pe_call F_is_short.F (hr.mono (by decide)) rfl F_is_short.g F_is_short.k F_is_short.b .nil pass0 (pa_cons (pv 0) (pa_nil))))))), ?_⟩
  exact body_end (m := mis_integer) h (fun F0 H0 => sx_ret (ex_and ((ex_cb (cb_isi (kd := isIntD) (cd := isTyD "int") tyx_int cls_ty (kit_ty (by decide +kernel))) (ab_cons (bx_var 0) (ab_cons ((ex_ty "int").b) ab_nil))).b) (ex_and ((ex_not ((ex_cb (cb_isi (kd := isIntD) (cd := isTyD "bool") tyx_int cls_ty (kit_ty (by decide +kernel))) (ab_cons (bx_var 0) (ab_cons ((ex_ty "bool").b) ab_nil))).b)).b) (ex_call (ax_cons (ex_var 0) (ax_nil))))))
end
abbrev sis_within : Stmt := top 10
theorem scis_within : FnScope ["value", "least", "most"] ["value", "least", "most"] (defScope sis_within) := ⟨rfl, rfl, rfl, by decide +kernel, rfl, by decide +kernel, by decide +kernel⟩
def mis_within : M Fl := mRet (mAndV (mCall 1 r_is_integer (mCons (mFro 0) (mNil))) (mChain (fB fun i j => decide (i ≤ j)) (fB fun i j => decide (i ≤ j)) (mAny 1) (mAny 0) (mAny 2)))
def r_is_within : List D → Option D := runD 3 mis_within
section
variable {P : Program} {w : World} {K : PySem.W.Frag} {mg : Str → Option Value} {base : Heap}
theorem ok_is_within {f : Addr} {fd : FuncData} (F : Fun K "is_within" "is_within" sis_within f fd) (F_is_integer : Own P w K mg base 2 "is_integer" 1 r_is_integer) : FnOk P w K mg base CX0 3 f fd ["value", "least", "most"] (spD K 3 r_is_within) := by
  have sc := scis_within
  refine F.ok sc (fun vs H Q E h => spD_len h) (fun cdv A outer s H vs Q E hr h => ?_)
  refine ⟨tRet (tAndV (tCall (spD K 1 r_is_integer) [] E0 (tCons (tVar 0) (tNil))) (tChain (rI0 fun i j => V.bl (decide (i ≤ j))) (rI0 fun i j => V.bl (decide (i ≤ j))) (tVar 1) (tVar 0) (tVar 2))), pss_one (ps_ret (pe_and (pe_call F_is_integer.F (hr.mono (by decide)) rfl F_is_integer.g F_is_integer.k F_is_integer.b .nil pass0 (pa_cons (pv 0) (pa_nil))) (pe_one (pe_chain op_le op_le (pv 1) (pv 0) (pv 2))))), ?_⟩
  exact body_end (m := mis_within) h (fun F0 H0 => sx_ret (ex_and ((ex_call (ax_cons (ex_var 0) (ax_nil))).b) (ex_chain (op_rB) (op_rB) (bx_var 1) (bx_var 0) (bx_var 2))))
end
abbrev sjoined : Stmt := top 19
theorem scjoined : FnScope ["one", "other", "place"] ["one", "other"] (defScope sjoined) := ⟨rfl, rfl, rfl, by decide +kernel, rfl, by decide +kernel, by decide +kernel⟩
def mjoined : M Fl := mRet (mB (f1 fun d => (lstD d).map D.tup) (mCons (mLc [2] (mItT (mFro 1)) (stN 2) (fun _ => some true) (m2 fIx (mAny 0) (mAny 2))) (mNil)))
def r_joined : List D → Option D := runD 3 mjoined
section
variable {P : Program} {w : World} {K : PySem.W.Frag} {mg : Str → Option Value} {base : Heap}
theorem ok_joined {f : Addr} {fd : FuncData} (F : Fun K "joined" "joined" sjoined f fd) (z_tuple : mg "tuple" = none) : FnOk P w K mg base CX0 1 f fd ["one", "other"] (spD K 2 r_joined) := by
  have sc := scjoined
  refine F.ok sc (fun vs H Q E h => spD_len h) (fun cdv A outer s H vs Q E hr h => ?_)
  refine ⟨tRet (tCB (rTupQ K) (tCons (tLc (iTup K (tVar 1)) (gName 2) (tYes) (tOp (rIx K) (tVar 0) (tVar 2)) [2]) (tNil))), pss_one (ps_ret (pe_callTy hTupQ rfl z_tuple (by decide +kernel) (pa_cons (pe_lc (own := [("place", 2)]) rfl sc.nd (pi_tup (pv 1)) (blkOk_by (by rfl)) (fun _ _ _ _ _ => pg_name (i := 2) sc.nd rfl (.inl rfl)) (fun _ _ _ _ _ => pts_nil) (fun _ _ _ _ _ => pe_ix ix_seq (pv 0) (pv 2) (fun _ _ => rfl))) (pa_nil)))), ?_⟩
  exact body_end (m := mjoined) h (fun F0 H0 => sx_ret (ex_cb bTupQ (ab_cons ((ox_lc (wx_tup (ex_var 1)) (gw_name 2) (tx_yes) (ex_ix (bx_var 0) (bx_var 2))).b) (ab_nil))))
end
abbrev sall_renamings : Stmt := top 20
theorem scall_renamings : FnScope ["moves", "start", "found", "waiting", "known", "move", "further"] ["moves"] (defScope sall_renamings) := ⟨rfl, rfl, rfl, by decide +kernel, rfl, by decide +kernel, by decide +kernel⟩
def mall_renamings : M Fl := mSeq (mAsg (mF fTupR (mB (f1 fLen) (mCons (m2 fIx (mAny 0) (mC (.int 0))) (mNil)))) (stN 1)) (mSeq (mOwn 2 (mDispT (mFro 1) (mC (.bl true)))) (mSeq (mOwn 3 (mLst (mCons (mFro 1) (mNil)))) (mSeq (mWhile 400 (mTru (mAny 3)) (mSeq (mPop 3 4) (mSeq (mFor (mItT (mFro 0)) (stN 5) (mSeq (mAsg (mCall 2 r_joined (mCons (mFro 4) (mCons (mFro 5) (mNil)))) (stN 6)) (mIf (mBool (m2 (fun e d => fHas true d e) (mAny 6) (mAny 2))) (mSeq (mPut 2 (mFro 6) (mC (.bl true))) (mAppend 3 (mFro 6))) (mNext)))) (mIf (mBool (m2 (fB fun i j => decide (j < i)) (mB (f1 fLenT) (mCons (mAny 2) (mNil))) (mC (.int (32))))) (mStop) (mNext))))) (mRet (mB (f1 fun d => (lstD d).map D.tup) (mCons (mB (f1 fSortedTD) (mCons (mAny 2) (mNil))) (mNil)))))))
def r_all_renamings : List D → Option D := runD 7 mall_renamings
section
variable {P : Program} {w : World} {K : PySem.W.Frag} {mg : Str → Option Value} {base : Heap}
theorem ok_all_renamings {f : Addr} {fd : FuncData} (F : Fun K "all_renamings" "all_renamings" sall_renamings f fd) (F_joined : Own P w K mg base 1 "joined" 2 r_joined) (g_MAX_SIZE : ∃ t, mg "MAX_SIZE" = some (.int (32) t)) (z_len : mg "len" = none) (z_range : mg "range" = none) (z_sorted : mg "sorted" = none) (z_tuple : mg "tuple" = none) : FnOk P w K mg base CX0 2 f fd ["moves"] (spD K 1 r_all_renamings) := by
  have sc := scall_renamings
  refine F.ok sc (fun vs H Q E h => spD_len h) (fun cdv A outer s H vs Q E hr h => ?_)
  refine ⟨tSeq (tAsg (tTupRg (tRg1 (tCB (rLenQ K) (tCons (tOp (rIx K) (tVar 0) (tC (.int 0))) (tNil))))) (gName 1)) (tSeq (tAsg (tDispT (tVar 1) (tC (.bl true))) (gName 2)) (tSeq (tAsg (tLst (tCons (tVar 1) (tNil))) (gName 3)) (tSeq (tWhile (fun σ H Q => (tVar 3) σ H fun x H' => ∃ k, TruV K x H' k ∧ Q k H') (tSeq (tAsg (tBM0 K "list" rPop (tVar 3)) (gName 4)) (tSeq (tFor (iTup K (tVar 0)) (gName 5) (tSeq (tAsg (tCall (spD K 2 r_joined) [] E0 (tCons (tVar 4) (tCons (tVar 5) (tNil)))) (gName 6)) (tIfS (tB (tDNotIn (tVar 6) (tVar 2))) (tSeq (sDPut (tVar 2) (tVar 6) (tC (.bl true))) (tDrop (tBM K "list" rAppend (tVar 3) (tCons (tVar 6) tNil)))) (tNext)))) (tIfS (tTest (tOp (rI0 fun i j => V.bl (decide (j < i))) (tCB (rLenT) (tCons (tVar 2) (tNil))) (tC (.int (32))))) ((fun _ _ _ => False)) (tNext))))) (tRet (tCB (rTupQ K) (tCons (tCB (rSortedTD K) (tCons (tVar 2) (tNil))) (tNil))))))), pss_cons (ps_set (i := 1) sc.nd rfl (.inl rfl) (pe_tupRg rfl rfl z_tuple (prg_1 rfl z_range (pe_callB hLenQ rfl z_len (by decide +kernel) (pa_cons (pe_ix ix_seq (pv 0) (pe_int) (fun _ _ => rfl)) (pa_nil)))))) (pss_cons (ps_set (i := 2) sc.nd rfl (.inl rfl) (pe_dispT (hu1 hr) (pv 1) (pe_bl))) (pss_cons (ps_set (i := 3) sc.nd rfl (.inl rfl) (pe_lst (pa_cons (pv 1) (pa_nil)))) (pss_cons (ps_while PassesOwn.never (pt_truth (pv 3) (fun _ => rfl)) (pss_cons (ps_set (i := 4) sc.nd rfl (.inl rfl) (pe_bm0 PySem.F.plainAttrs_list PySem.F.slot_list_pop PySem.F.type_list_pop mt_pop (pv 3))) (pss_cons (ps_for PassesOwn.never rfl (pi_tup (pv 0)) (pg_name (i := 5) sc.nd rfl (.inl rfl)) (pss_cons (ps_set (i := 6) sc.nd rfl (.inl rfl) (pe_call F_joined.F (hr.mono (by decide)) rfl F_joined.g F_joined.k F_joined.b .nil pass0 (pa_cons (pv 4) (pa_cons (pv 5) (pa_nil))))) (pss_one (ps_if (pt_cmp (pc_dnotin (hu1 hr) (pv 6) (pv 2))) (pss_cons (ps_dput (hu1 hr) (pv 2) (pv 6) (pe_bl) rfl) (pss_one (ps_expr (pe_bm PySem.F.plainAttrs_list PySem.F.slot_list_append PySem.F.type_list_append mt_append (pv 3) (pa_cons (pv 6) pa_nil))))) (pss_nil))))) (pss_one (ps_if (pt_cmpR op_gt (pe_callB hLenT rfl z_len (by decide +kernel) (pa_cons (pv 2) (pa_nil))) (pe_glob rfl g_MAX_SIZE.choose_spec ⟨_, rfl⟩) (nomark _)) (pss_one (ps_no)) (pss_nil)))))) (pss_one (ps_ret (pe_callTy hTupQ rfl z_tuple (by decide +kernel) (pa_cons (pe_callB (cr_sortedTD rfl (hu64 hr)) rfl z_sorted (by decide +kernel) (pa_cons (pv 2) (pa_nil))) (pa_nil)))))))), ?_⟩
  exact body_end (m := mall_renamings) h (fun F0 H0 => sx_seq (sx_asg (ex_tupRg (ex_cb bLenQ (ab_cons ((ex_ix (bx_var 0) ((ex_int 0).b)).b) (ab_nil)))) (gx_name 1)) (sx_seq (sx_own 2 (ox_dispT (ex_var 1) (ex_bl true))) (sx_seq (sx_own 3 (ox_lst (ax_cons (ex_var 1) (ax_nil)))) (sx_seq (sx_while 400 (tx_tru (bx_var 3)) (sx_seq (sx_pop 3 4) (sx_seq (sx_for (wx_tup (ex_var 0)) (gx_name 5) (sx_seq (sx_asg (ex_call (ax_cons (ex_var 4) (ax_cons (ex_var 5) (ax_nil)))) (gx_name 6)) (sx_if (tx_b (ex_dnin (bx_var 6) (bx_var 2)).b) (sx_seq (sx_put 2 (ex_var 6) (ex_bl true)) (sx_append 3 (ex_var 6))) (sx_next)))) (sx_if (tx_test (ex_op op_rB ((ex_cb cb_lenT (ab_cons (bx_var 2) (ab_nil))).b) ((ex_int (32)).b)).b) (sx_stop) (sx_next))))) (sx_ret (ex_cb bTupQ (ab_cons ((ox_cb co_sortedTD (ab_cons (bx_var 2) (ab_nil))).b) (ab_nil))))))))
end
abbrev spower_of : Stmt := top 21
theorem scpower_of : FnScope ["products", "member", "number", "power", "_"] ["products", "member", "number"] (defScope spower_of) := ⟨rfl, rfl, rfl, by decide +kernel, rfl, by decide +kernel, by decide +kernel⟩
def mpower_of : M Fl := mSeq (mAsg (mC (.int 0)) (stN 3)) (mSeq (mFor (mRng (mCons (mAny 2) (mNil))) (stN 4) (mAsg (m2 fIx (m2 fIx (mAny 0) (mAny 3)) (mAny 1)) (stN 3))) (mRet (mFro 3)))
def r_power_of : List D → Option D := runD 5 mpower_of
section
variable {P : Program} {w : World} {K : PySem.W.Frag} {mg : Str → Option Value} {base : Heap}
theorem ok_power_of {f : Addr} {fd : FuncData} (F : Fun K "power_of" "power_of" spower_of f fd) (z_range : mg "range" = none) : FnOk P w K mg base CX0 1 f fd ["products", "member", "number"] (spD K 3 r_power_of) := by
  have sc := scpower_of
  refine F.ok sc (fun vs H Q E h => spD_len h) (fun cdv A outer s H vs Q E hr h => ?_)
  refine ⟨tSeq (tAsg (tC (.int 0)) (gName 3)) (tSeq (tFor (iRng1 (tCons (tVar 2) (tNil))) (gName 4) (tAsg (tOp (rIx K) (tOp (rIx K) (tVar 0) (tVar 3)) (tVar 1)) (gName 3))) (tRet (tVar 3))), pss_cons (ps_set (i := 3) sc.nd rfl (.inl rfl) (pe_int)) (pss_cons (ps_for PassesOwn.never rfl (pi_range1 rfl z_range (pa_cons (pv 2) (pa_nil))) (pg_name (i := 4) sc.nd rfl (.inl rfl)) (pss_one (ps_set (i := 3) sc.nd rfl (.inl rfl) (pe_ix ix_seq (pe_ix ix_seq (pv 0) (pv 3) (fun _ _ => rfl)) (pv 1) (fun _ _ => rfl))))) (pss_one (ps_ret (pv 3)))), ?_⟩
  exact body_end (m := mpower_of) h (fun F0 H0 => sx_seq (sx_asg (ex_int 0) (gx_name 3)) (sx_seq (sx_for (wx_range1 (ab_cons (bx_var 2) (ab_nil)) (mCons_len (mNil_len))) (gx_name 4) (sx_asg (ex_ix ((ex_ix (bx_var 0) (bx_var 3)).b) (bx_var 1)) (gx_name 3))) (sx_ret (ex_var 3))))
end
abbrev sclosed_members : Stmt := top 23
theorem scclosed_members : FnScope ["products", "makers", "found", "waiting", "known", "maker", "further"] ["products", "makers"] (defScope sclosed_members) := ⟨rfl, rfl, rfl, by decide +kernel, rfl, by decide +kernel, by decide +kernel⟩
def mclosed_members : M Fl := mSeq (mOwn 2 (mDisp ((mC (.int 0), mC (.bl true)) :: []))) (mSeq (mOwn 3 (mLst (mCons (mC (.int 0)) (mNil)))) (mSeq (mWhile 400 (mTru (mAny 3)) (mSeq (mPop 3 4) (mFor (mItT (mFro 1)) (stN 5) (mSeq (mAsg (m2 fIx (m2 fIx (mAny 0) (mAny 4)) (mAny 5)) (stN 6)) (mIf (mBool (m2 (fun e d => fHas true d e) (mAny 6) (mAny 2))) (mSeq (mPut 2 (mFro 6) (mC (.bl true))) (mAppend 3 (mFro 6))) (mNext)))))) (mRet (mB (f1 fun d => (lstD d).map D.tup) (mCons (mB (f1 fSortedKI) (mCons (mAny 2) (mNil))) (mNil))))))
def r_closed_members : List D → Option D := runD 7 mclosed_members
section
variable {P : Program} {w : World} {K : PySem.W.Frag} {mg : Str → Option Value} {base : Heap}
theorem ok_closed_members {f : Addr} {fd : FuncData} (F : Fun K "closed_members" "closed_members" sclosed_members f fd) (z_sorted : mg "sorted" = none) (z_tuple : mg "tuple" = none) : FnOk P w K mg base CX0 1 f fd ["products", "makers"] (spD K 2 r_closed_members) := by
  have sc := scclosed_members
  refine F.ok sc (fun vs H Q E h => spD_len h) (fun cdv A outer s H vs Q E hr h => ?_)
  refine ⟨tSeq (tAsg (tDisp ((tC (.int 0), tC (.bl true)) :: [])) (gName 2)) (tSeq (tAsg (tLst (tCons (tC (.int 0)) (tNil))) (gName 3)) (tSeq (tWhile (fun σ H Q => (tVar 3) σ H fun x H' => ∃ k, TruV K x H' k ∧ Q k H') (tSeq (tAsg (tBM0 K "list" rPop (tVar 3)) (gName 4)) (tFor (iTup K (tVar 1)) (gName 5) (tSeq (tAsg (tOp (rIx K) (tOp (rIx K) (tVar 0) (tVar 4)) (tVar 5)) (gName 6)) (tIfS (tB (tDNotIn (tVar 6) (tVar 2))) (tSeq (sDPut (tVar 2) (tVar 6) (tC (.bl true))) (tDrop (tBM K "list" rAppend (tVar 3) (tCons (tVar 6) tNil)))) (tNext)))))) (tRet (tCB (rTupQ K) (tCons (tCB (rSortKI) (tCons (tVar 2) (tNil))) (tNil)))))), pss_cons (ps_set (i := 2) sc.nd rfl (.inl rfl) (pe_disp (pps_cons (pe_int) (pe_bl) (pps_nil)) rfl rfl (by simp) (by decide))) (pss_cons (ps_set (i := 3) sc.nd rfl (.inl rfl) (pe_lst (pa_cons (pe_int) (pa_nil)))) (pss_cons (ps_while PassesOwn.never (pt_truth (pv 3) (fun _ => rfl)) (pss_cons (ps_set (i := 4) sc.nd rfl (.inl rfl) (pe_bm0 PySem.F.plainAttrs_list PySem.F.slot_list_pop PySem.F.type_list_pop mt_pop (pv 3))) (pss_one (ps_for PassesOwn.never rfl (pi_tup (pv 1)) (pg_name (i := 5) sc.nd rfl (.inl rfl)) (pss_cons (ps_set (i := 6) sc.nd rfl (.inl rfl) (pe_ix ix_seq (pe_ix ix_seq (pv 0) (pv 4) (fun _ _ => rfl)) (pv 5) (fun _ _ => rfl))) (pss_one (ps_if (pt_cmp (pc_dnotin (hu1 hr) (pv 6) (pv 2))) (pss_cons (ps_dput (hu1 hr) (pv 2) (pv 6) (pe_bl) rfl) (pss_one (ps_expr (pe_bm PySem.F.plainAttrs_list PySem.F.slot_list_append PySem.F.type_list_append mt_append (pv 3) (pa_cons (pv 6) pa_nil))))) (pss_nil)))))))) (pss_one (ps_ret (pe_callTy hTupQ rfl z_tuple (by decide +kernel) (pa_cons (pe_callB (hSortKI rfl) rfl z_sorted (by decide +kernel) (pa_cons (pv 2) (pa_nil))) (pa_nil))))))), ?_⟩
  exact body_end (m := mclosed_members) h (fun F0 H0 => sx_seq (sx_own 2 (ox_disp (.cons (ex_int 0) (ex_bl true) (.nil)))) (sx_seq (sx_own 3 (ox_lst (ax_cons (ex_int 0) (ax_nil)))) (sx_seq (sx_while 400 (tx_tru (bx_var 3)) (sx_seq (sx_pop 3 4) (sx_for (wx_tup (ex_var 1)) (gx_name 5) (sx_seq (sx_asg (ex_ix ((ex_ix (bx_var 0) (bx_var 4)).b) (bx_var 5)) (gx_name 6)) (sx_if (tx_b (ex_dnin (bx_var 6) (bx_var 2)).b) (sx_seq (sx_put 2 (ex_var 6) (ex_bl true)) (sx_append 3 (ex_var 6))) (sx_next)))))) (sx_ret (ex_cb bTupQ (ab_cons ((ox_cb bSortKI (ab_cons (bx_var 2) (ab_nil))).b) (ab_nil)))))))
end
abbrev sis_renaming : Stmt := top 18
theorem scis_renaming : FnScope ["value", "place"] ["value"] (defScope sis_renaming) := ⟨rfl, rfl, rfl, by decide +kernel, rfl, by decide +kernel, by decide +kernel⟩
def mis_renaming : M Fl := mSeq (mIf (mOr (mNot (mBool (mB (fIsi (isTupD) (isTyD "tuple") true) (mCons (mAny 0) (mCons (mC (.ty "tuple")) mNil))))) (mNot (mBool (mChain (fB fun i j => decide (i ≤ j)) (fB fun i j => decide (i ≤ j)) (mC (.int 1)) (mB (f1 fLen) (mCons (mAny 0) (mNil))) (mC (.int (32))))))) (mRet (mC (.bl false))) (mNext)) (mRet (mAndV (mB (f1 fAll) (mCons (mLc [1] (mItT (mFro 0)) (stN 1) (fun _ => some true) (mCall 3 r_is_within (mCons (mFro 1) (mCons (mC (.int 0)) (mCons (m2 (fI (fun _ _ => true) fun i j => i - j) (mB (f1 fLen) (mCons (mAny 0) (mNil))) (mC (.int 1))) (mNil)))))) (mNil))) (m2 (fEq false) (mF fLenSet (mFro 0)) (mB (f1 fLen) (mCons (mAny 0) (mNil))))))
def r_is_renaming : List D → Option D := runD 2 mis_renaming
section
variable {P : Program} {w : World} {K : PySem.W.Frag} {mg : Str → Option Value} {base : Heap}
theorem ok_is_renaming {f : Addr} {fd : FuncData} (F : Fun K "is_renaming" "is_renaming" sis_renaming f fd) (F_is_within : Own P w K mg base 3 "is_within" 3 r_is_within) (g_MAX_PLACES : ∃ t, mg "MAX_PLACES" = some (.int (32) t)) (z_all : mg "all" = none) (z_isinstance : mg "isinstance" = none) (z_len : mg "len" = none) (z_set : mg "set" = none) (z_tuple : mg "tuple" = none) : FnOk P w K mg base CX0 4 f fd ["value"] (spD K 1 r_is_renaming) := by
  have sc := scis_renaming
  refine F.ok sc (fun vs H Q E h => spD_len h) (fun cdv A outer s H vs Q E hr h => ?_)
  refine ⟨tSeq (tIfS (tOr (tNot (tB (tCB (rIsi K) (tCons (tVar 0) (tCons (tC (.ty "tuple")) tNil))))) (tNot (tTest (tChain (rI0 fun i j => V.bl (decide (i ≤ j))) (rI0 fun i j => V.bl (decide (i ≤ j))) (tC (.int 1)) (tCB (rLenQ K) (tCons (tVar 0) (tNil))) (tC (.int (32))))))) (tRet (tC (.bl false))) (tNext)) (tRet (tAndV (tCB (rAll K) (tCons (tLc (iTup K (tVar 0)) (gName 1) (tYes) (tCall (spD K 3 r_is_within) [] E0 (tCons (tVar 1) (tCons (tC (.int 0)) (tCons (tOp (rI0 fun i j => V.int (i - j)) (tCB (rLenQ K) (tCons (tVar 0) (tNil))) (tC (.int 1))) (tNil))))) [1]) (tNil))) (tOp (rEqD K) (tCB rLenS (tCons (tCB (rSetT K) (tCons (tVar 0) tNil)) tNil)) (tCB (rLenQ K) (tCons (tVar 0) (tNil)))))), pss_cons (ps_if (PW.pt (pw_or (pt_not (pt_val (pe_callB call_isi rfl z_isinstance (by decide +kernel) (pa_cons (pv 0) (pa_cons (pe_bltn rfl z_tuple (by decide +kernel) rfl) pa_nil))) (fun _ => rfl))) (pw_or1 (pt_not (pt_chain op_le op_le (pe_int) (pe_callB hLenQ rfl z_len (by decide +kernel) (pa_cons (pv 0) (pa_nil))) (pe_glob rfl g_MAX_PLACES.choose_spec ⟨_, rfl⟩)))))) (pss_one (ps_ret (pe_bl))) (pss_nil)) (pss_one (ps_ret (pe_and (pe_callB (cr_all rfl) rfl z_all (by decide +kernel) (pa_cons (pe_lc (own := [("place", 1)]) rfl sc.nd (pi_tup (pv 0)) (blkOk_by (by rfl)) (fun _ _ _ _ _ => pg_name (i := 1) sc.nd rfl (.inl rfl)) (fun _ _ _ _ _ => pts_nil) (fun _ _ _ _ _ => pe_call F_is_within.F (hr.mono (by decide)) rfl F_is_within.g F_is_within.k F_is_within.b .nil pass0 (pa_cons (pv 1) (pa_cons (pe_int) (pa_cons (pe_op op_sub (pe_callB hLenQ rfl z_len (by decide +kernel) (pa_cons (pv 0) (pa_nil))) (pe_int)) (pa_nil)))))) (pa_nil))) (pe_one (pe_cmpR (op_eqD (hu64 hr)) (pe_callB call_lenS rfl z_len (by decide +kernel) (pa_cons (pe_callTy (call_setT rfl) rfl z_set (by decide +kernel) (pa_cons (pv 0) pa_nil)) pa_nil)) (pe_callB hLenQ rfl z_len (by decide +kernel) (pa_cons (pv 0) (pa_nil))) (nomark _)))))), ?_⟩
  exact body_end (m := mis_renaming) h (fun F0 H0 => sx_seq (sx_if (tx_or (tx_not (tx_b ((ex_cb (cb_isi (kd := isTupD) (cd := isTyD "tuple") tyx_tup cls_ty (kit_ty (by decide +kernel))) (ab_cons (bx_var 0) (ab_cons ((ex_ty "tuple").b) ab_nil))).b))) (tx_not (tx_test (ex_chain (op_rB) (op_rB) ((ex_int 1).b) ((ex_cb bLenQ (ab_cons (bx_var 0) (ab_nil))).b) ((ex_int (32)).b)).b))) (sx_ret (ex_bl false)) (sx_next)) (sx_ret (ex_and ((ex_cb cb_all (ab_cons ((ox_lc (wx_tup (ex_var 0)) (gw_name 1) (tx_yes) (ex_call (ax_cons (ex_var 1) (ax_cons (ex_int 0) (ax_cons (ex_op (op_rI0) ((ex_cb bLenQ (ab_cons (bx_var 0) (ab_nil))).b) ((ex_int 1).b)) (ax_nil)))))).b) (ab_nil))).b) (ex_op op_eqB ((ex_lenSet (ex_var 0)).b) ((ex_cb bLenQ (ab_cons (bx_var 0) (ab_nil))).b)))))
end
abbrev sare_moves : Stmt := top 17
theorem scare_moves : FnScope ["value", "move"] ["value"] (defScope sare_moves) := ⟨rfl, rfl, rfl, by decide +kernel, rfl, by decide +kernel, by decide +kernel⟩
def mare_moves : M Fl := mSeq (mIf (mOr (mNot (mBool (mB (fIsi (isTupD) (isTyD "tuple") true) (mCons (mAny 0) (mCons (mC (.ty "tuple")) mNil))))) (mNot (mBool (mChain (fB fun i j => decide (i ≤ j)) (fB fun i j => decide (i ≤ j)) (mC (.int 1)) (mB (f1 fLen) (mCons (mAny 0) (mNil))) (mC (.int (4))))))) (mRet (mC (.bl false))) (mNext)) (mRet (mAndV (mB (f1 fAll) (mCons (mLc [1] (mItT (mFro 0)) (stN 1) (fun _ => some true) (mCall 1 r_is_renaming (mCons (mFro 1) (mNil)))) (mNil))) (mB (f1 fAll) (mCons (mLc [1] (mItT (mFro 0)) (stN 1) (fun _ => some true) (m2 (fEq false) (mB (f1 fLen) (mCons (mAny 1) (mNil))) (mB (f1 fLen) (mCons (m2 fIx (mAny 0) (mC (.int 0))) (mNil))))) (mNil)))))
def r_are_moves : List D → Option D := runD 2 mare_moves
section
variable {P : Program} {w : World} {K : PySem.W.Frag} {mg : Str → Option Value} {base : Heap}
theorem ok_are_moves {f : Addr} {fd : FuncData} (F : Fun K "are_moves" "are_moves" sare_moves f fd) (F_is_renaming : Own P w K mg base 4 "is_renaming" 1 r_is_renaming) (g_MOST_MOVES : ∃ t, mg "MOST_MOVES" = some (.int (4) t)) (z_all : mg "all" = none) (z_isinstance : mg "isinstance" = none) (z_len : mg "len" = none) (z_tuple : mg "tuple" = none) : FnOk P w K mg base CX0 5 f fd ["value"] (spD K 1 r_are_moves) := by
  have sc := scare_moves
  refine F.ok sc (fun vs H Q E h => spD_len h) (fun cdv A outer s H vs Q E hr h => ?_)
  refine ⟨tSeq (tIfS (tOr (tNot (tB (tCB (rIsi K) (tCons (tVar 0) (tCons (tC (.ty "tuple")) tNil))))) (tNot (tTest (tChain (rI0 fun i j => V.bl (decide (i ≤ j))) (rI0 fun i j => V.bl (decide (i ≤ j))) (tC (.int 1)) (tCB (rLenQ K) (tCons (tVar 0) (tNil))) (tC (.int (4))))))) (tRet (tC (.bl false))) (tNext)) (tRet (tAndV (tCB (rAll K) (tCons (tLc (iTup K (tVar 0)) (gName 1) (tYes) (tCall (spD K 1 r_is_renaming) [] E0 (tCons (tVar 1) (tNil))) [1]) (tNil))) (tCB (rAll K) (tCons (tLc (iTup K (tVar 0)) (gName 1) (tYes) (tOp (rEqD K) (tCB (rLenQ K) (tCons (tVar 1) (tNil))) (tCB (rLenQ K) (tCons (tOp (rIx K) (tVar 0) (tC (.int 0))) (tNil)))) [1]) (tNil))))), pss_cons (ps_if (PW.pt (pw_or (pt_not (pt_val (pe_callB call_isi rfl z_isinstance (by decide +kernel) (pa_cons (pv 0) (pa_cons (pe_bltn rfl z_tuple (by decide +kernel) rfl) pa_nil))) (fun _ => rfl))) (pw_or1 (pt_not (pt_chain op_le op_le (pe_int) (pe_callB hLenQ rfl z_len (by decide +kernel) (pa_cons (pv 0) (pa_nil))) (pe_glob rfl g_MOST_MOVES.choose_spec ⟨_, rfl⟩)))))) (pss_one (ps_ret (pe_bl))) (pss_nil)) (pss_one (ps_ret (pe_and (pe_callB (cr_all rfl) rfl z_all (by decide +kernel) (pa_cons (pe_lc (own := [("move", 1)]) rfl sc.nd (pi_tup (pv 0)) (blkOk_by (by rfl)) (fun _ _ _ _ _ => pg_name (i := 1) sc.nd rfl (.inl rfl)) (fun _ _ _ _ _ => pts_nil) (fun _ _ _ _ _ => pe_call F_is_renaming.F (hr.mono (by decide)) rfl F_is_renaming.g F_is_renaming.k F_is_renaming.b .nil pass0 (pa_cons (pv 1) (pa_nil)))) (pa_nil))) (pe_one (pe_callB (cr_all rfl) rfl z_all (by decide +kernel) (pa_cons (pe_lc (own := [("move", 1)]) rfl sc.nd (pi_tup (pv 0)) (blkOk_by (by rfl)) (fun _ _ _ _ _ => pg_name (i := 1) sc.nd rfl (.inl rfl)) (fun _ _ _ _ _ => pts_nil) (fun _ _ _ _ _ => pe_cmpR (op_eqD (hu64 hr)) (pe_callB hLenQ rfl z_len (by decide +kernel) (pa_cons (pv 1) (pa_nil))) (pe_callB hLenQ rfl z_len (by decide +kernel) (pa_cons (pe_ix ix_seq (pv 0) (pe_int) (fun _ _ => rfl)) (pa_nil))) (nomark _))) (pa_nil))))))), ?_⟩
  exact body_end (m := mare_moves) h (fun F0 H0 => sx_seq (sx_if (tx_or (tx_not (tx_b ((ex_cb (cb_isi (kd := isTupD) (cd := isTyD "tuple") tyx_tup cls_ty (kit_ty (by decide +kernel))) (ab_cons (bx_var 0) (ab_cons ((ex_ty "tuple").b) ab_nil))).b))) (tx_not (tx_test (ex_chain (op_rB) (op_rB) ((ex_int 1).b) ((ex_cb bLenQ (ab_cons (bx_var 0) (ab_nil))).b) ((ex_int (4)).b)).b))) (sx_ret (ex_bl false)) (sx_next)) (sx_ret (ex_and ((ex_cb cb_all (ab_cons ((ox_lc (wx_tup (ex_var 0)) (gw_name 1) (tx_yes) (ex_call (ax_cons (ex_var 1) (ax_nil)))).b) (ab_nil))).b) (ex_cb cb_all (ab_cons ((ox_lc (wx_tup (ex_var 0)) (gw_name 1) (tx_yes) (ex_op op_eqB ((ex_cb bLenQ (ab_cons (bx_var 1) (ab_nil))).b) ((ex_cb bLenQ (ab_cons ((ex_ix (bx_var 0) ((ex_int 0).b)).b) (ab_nil))).b))).b) (ab_nil))))))
end
abbrev slaw_behind : Stmt := top 42
theorem sclaw_behind : FnScope ["_law_one", "_law_other", "_law_place"] ["_law_one", "_law_other"] (defScope slaw_behind) := ⟨rfl, rfl, rfl, by decide +kernel, rfl, by decide +kernel, by decide +kernel⟩
def mlaw_behind : M Fl := mRet (mB (f1 fun d => (lstD d).map D.tup) (mCons (mLc [2] (mItT (mFro 1)) (stN 2) (fun _ => some true) (m2 fIx (mAny 0) (mAny 2))) (mNil)))
def r_law_behind : List D → Option D := runD 3 mlaw_behind
section
variable {P : Program} {w : World} {K : PySem.W.Frag} {mg : Str → Option Value} {base : Heap}
theorem ok_law_behind {f : Addr} {fd : FuncData} (F : Fun K "_law_behind" "_law_behind" slaw_behind f fd) (z_tuple : mg "tuple" = none) : FnOk P w K mg base CX0 1 f fd ["_law_one", "_law_other"] (spD K 2 r_law_behind) := by
  have sc := sclaw_behind
  refine F.ok sc (fun vs H Q E h => spD_len h) (fun cdv A outer s H vs Q E hr h => ?_)
  refine ⟨tRet (tCB (rTupQ K) (tCons (tLc (iTup K (tVar 1)) (gName 2) (tYes) (tOp (rIx K) (tVar 0) (tVar 2)) [2]) (tNil))), pss_one (ps_ret (pe_callTy hTupQ rfl z_tuple (by decide +kernel) (pa_cons (pe_lc (own := [("_law_place", 2)]) rfl sc.nd (pi_tup (pv 1)) (blkOk_by (by rfl)) (fun _ _ _ _ _ => pg_name (i := 2) sc.nd rfl (.inl rfl)) (fun _ _ _ _ _ => pts_nil) (fun _ _ _ _ _ => pe_ix ix_seq (pv 0) (pv 2) (fun _ _ => rfl))) (pa_nil)))), ?_⟩
  exact body_end (m := mlaw_behind) h (fun F0 H0 => sx_ret (ex_cb bTupQ (ab_cons ((ox_lc (wx_tup (ex_var 1)) (gw_name 2) (tx_yes) (ex_ix (bx_var 0) (bx_var 2))).b) (ab_nil))))
end
abbrev slaw_made : Stmt := top 43
theorem sclaw_made : FnScope ["_law_moves", "_law_idle", "_law_found", "_law_fresh", "_law_later", "_law_one", "_law_move", "_law_more"] ["_law_moves"] (defScope slaw_made) := ⟨rfl, rfl, rfl, by decide +kernel, rfl, by decide +kernel, by decide +kernel⟩
def mlaw_made : M Fl := mSeq (mAsg (mF fTupR (mB (f1 fLen) (mCons (m2 fIx (mAny 0) (mC (.int 0))) (mNil)))) (stN 1)) (mSeq (mOwnX 2 3 (mDispT (mFro 1) (mC (.int 1))) (mLst (mCons (mFro 1) (mNil)))) (mSeq (mWhile 40 (mBool (m2 (fEq true) (mAny 3) (mLst (mNil)))) (mSeq (mOwn 4 (mLst (mNil))) (mSeq (mFor (mItL (mFro 3)) (stN 5) (mFor (mItT (mFro 0)) (stN 6) (mSeq (mAsg (mCall 2 r_law_behind (mCons (mFro 5) (mCons (mFro 6) (mNil)))) (stN 7)) (mIf (mBool (m2 (fun e d => fHas true d e) (mAny 7) (mAny 2))) (mSeq (mPut 2 (mFro 7) (mC (.int 1))) (mAppend 4 (mFro 7))) (mNext))))) (mAsg (mB (f1 fun d => (seqD d).map D.lst) (mCons (mAny 4) (mNil))) (stN 3))))) (mRet (mB (f1 fSortedTD) (mCons (mAny 2) (mNil))))))
def r_law_made : List D → Option D := runD 8 mlaw_made
section
variable {P : Program} {w : World} {K : PySem.W.Frag} {mg : Str → Option Value} {base : Heap}
theorem ok_law_made {f : Addr} {fd : FuncData} (F : Fun K "_law_made" "_law_made" slaw_made f fd) (F__law_behind : Own P w K mg base 1 "_law_behind" 2 r_law_behind) (z_len : mg "len" = none) (z_list : mg "list" = none) (z_range : mg "range" = none) (z_sorted : mg "sorted" = none) (z_tuple : mg "tuple" = none) : FnOk P w K mg base CX0 2 f fd ["_law_moves"] (spD K 1 r_law_made) := by
  have sc := sclaw_made
  refine F.ok sc (fun vs H Q E h => spD_len h) (fun cdv A outer s H vs Q E hr h => ?_)
  refine ⟨tSeq (tAsg (tTupRg (tRg1 (tCB (rLenQ K) (tCons (tOp (rIx K) (tVar 0) (tC (.int 0))) (tNil))))) (gName 1)) (tSeq (tPar 2 3 (tCons (tDispT (tVar 1) (tC (.int 1))) (tCons (tLst (tCons (tVar 1) (tNil))) tNil))) (tSeq (tWhile (tTest (tOp (rNeD K) (tVar 3) (tLst (tNil)))) (tSeq (tAsg (tLst (tNil)) (gName 4)) (tSeq (tFor (iList K (tVar 3)) (gName 5) (tFor (iTup K (tVar 0)) (gName 6) (tSeq (tAsg (tCall (spD K 2 r_law_behind) [] E0 (tCons (tVar 5) (tCons (tVar 6) (tNil)))) (gName 7)) (tIfS (tB (tDNotIn (tVar 7) (tVar 2))) (tSeq (sDPut (tVar 2) (tVar 7) (tC (.int 1))) (tDrop (tBM K "list" rAppend (tVar 4) (tCons (tVar 7) tNil)))) (tNext))))) (tAsg (tCB (rLstQ K) (tCons (tVar 4) (tNil))) (gName 3))))) (tRet (tCB (rSortedTD K) (tCons (tVar 2) (tNil)))))), pss_cons (ps_set (i := 1) sc.nd rfl (.inl rfl) (pe_tupRg rfl rfl z_tuple (prg_1 rfl z_range (pe_callB hLenQ rfl z_len (by decide +kernel) (pa_cons (pe_ix ix_seq (pv 0) (pe_int) (fun _ _ => rfl)) (pa_nil)))))) (pss_cons (ps_par rfl sc.nd rfl rfl (by decide) rfl rfl (pa_cons (pe_dispT (hu1 hr) (pv 1) (pe_int)) (pa_cons (pe_lst (pa_cons (pv 1) (pa_nil))) pa_nil)) rfl) (pss_cons (ps_while PassesOwn.never (pt_cmpR (op_neD (hu64 hr)) (pv 3) (pe_lst (pa_nil)) (nomark _)) (pss_cons (ps_set (i := 4) sc.nd rfl (.inl rfl) (pe_lst (pa_nil))) (pss_cons (ps_for PassesOwn.never rfl (pi_list (pv 3)) (pg_name (i := 5) sc.nd rfl (.inl rfl)) (pss_one (ps_for PassesOwn.never rfl (pi_tup (pv 0)) (pg_name (i := 6) sc.nd rfl (.inl rfl)) (pss_cons (ps_set (i := 7) sc.nd rfl (.inl rfl) (pe_call F__law_behind.F (hr.mono (by decide)) rfl F__law_behind.g F__law_behind.k F__law_behind.b .nil pass0 (pa_cons (pv 5) (pa_cons (pv 6) (pa_nil))))) (pss_one (ps_if (pt_cmp (pc_dnotin (hu1 hr) (pv 7) (pv 2))) (pss_cons (ps_dput (hu1 hr) (pv 2) (pv 7) (pe_int) rfl) (pss_one (ps_expr (pe_bm PySem.F.plainAttrs_list PySem.F.slot_list_append PySem.F.type_list_append mt_append (pv 4) (pa_cons (pv 7) pa_nil))))) (pss_nil))))))) (pss_one (ps_set (i := 3) sc.nd rfl (.inl rfl) (pe_callTy hLstQ rfl z_list (by decide +kernel) (pa_cons (pv 4) (pa_nil)))))))) (pss_one (ps_ret (pe_callB (cr_sortedTD rfl (hu64 hr)) rfl z_sorted (by decide +kernel) (pa_cons (pv 2) (pa_nil))))))), ?_⟩
  exact body_end (m := mlaw_made) h (fun F0 H0 => sx_seq (sx_asg (ex_tupRg (ex_cb bLenQ (ab_cons ((ex_ix (bx_var 0) ((ex_int 0).b)).b) (ab_nil)))) (gx_name 1)) (sx_seq (sx_ownX 2 3 (ox_dispT (ex_var 1) (ex_int 1)) ((ox_lst (ax_cons (ex_var 1) (ax_nil))).x)) (sx_seq (sx_while 40 (tx_test (ex_op op_neB (bx_var 3) ((ox_lst (ax_nil)).b)).b) (sx_seq (sx_own 4 (ox_lst (ax_nil))) (sx_seq (sx_for (wx_list (ex_var 3)) (gx_name 5) (sx_for (wx_tup (ex_var 0)) (gx_name 6) (sx_seq (sx_asg (ex_call (ax_cons (ex_var 5) (ax_cons (ex_var 6) (ax_nil)))) (gx_name 7)) (sx_if (tx_b (ex_dnin (bx_var 7) (bx_var 2)).b) (sx_seq (sx_put 2 (ex_var 7) (ex_int 1)) (sx_append 4 (ex_var 7))) (sx_next))))) (sx_asg ((ox_cb bLstQ (ab_cons (bx_var 4) (ab_nil))).x) (gx_name 3))))) (sx_ret ((ox_cb co_sortedTD (ab_cons (bx_var 2) (ab_nil))).x)))))
end
abbrev slaw_round_moves : Stmt := top 45
theorem sclaw_round_moves : FnScope ["_law_size", "_law_at"] ["_law_size"] (defScope slaw_round_moves) := ⟨rfl, rfl, rfl, by decide +kernel, rfl, by decide +kernel, by decide +kernel⟩
def mlaw_round_moves : M Fl := mRet (mTup (mCons (mB (f1 fun d => (lstD d).map D.tup) (mCons (mLc [1] (mRng (mCons (mAny 0) (mNil))) (stN 1) (fun _ => some true) (m2 (fI cPos fun i j => i % j) (mB (f1 fInt1) (mCons (m2 (fI (fun _ _ => true) fun i j => i + j) (mAny 1) (mC (.int 1))) (mNil))) (mAny 0))) (mNil))) (mNil)))
def r_law_round_moves : List D → Option D := runD 2 mlaw_round_moves
section
variable {P : Program} {w : World} {K : PySem.W.Frag} {mg : Str → Option Value} {base : Heap}
theorem ok_law_round_moves {f : Addr} {fd : FuncData} (F : Fun K "_law_round_moves" "_law_round_moves" slaw_round_moves f fd) (z_int : mg "int" = none) (z_range : mg "range" = none) (z_tuple : mg "tuple" = none) : FnOk P w K mg base CX0 1 f fd ["_law_size"] (spD K 1 r_law_round_moves) := by
  have sc := sclaw_round_moves
  refine F.ok sc (fun vs H Q E h => spD_len h) (fun cdv A outer s H vs Q E hr h => ?_)
  refine ⟨tRet (tTup (tCons (tCB (rTupQ K) (tCons (tLc (iRng1 (tCons (tVar 0) (tNil))) (gName 1) (tYes) (tOp (rI (fun _ j => 0 < j) fun i j => V.int (i % j)) (tCB (rInt1) (tCons (tOp (rI0 fun i j => V.int (i + j)) (tVar 1) (tC (.int 1))) (tNil))) (tVar 0)) [1]) (tNil))) (tNil))), pss_one (ps_ret (pe_tup (pa_cons (pe_callTy hTupQ rfl z_tuple (by decide +kernel) (pa_cons (pe_lc (own := [("_law_at", 1)]) rfl sc.nd (pi_range1 rfl z_range (pa_cons (pv 0) (pa_nil))) (blkOk_by (by rfl)) (fun _ _ _ _ _ => pg_name (i := 1) sc.nd rfl (.inl rfl)) (fun _ _ _ _ _ => pts_nil) (fun _ _ _ _ _ => pe_op op_mod (pe_callTy hInt1 rfl z_int (by decide +kernel) (pa_cons (pe_op op_add (pv 1) (pe_int)) (pa_nil))) (pv 0))) (pa_nil))) (pa_nil)))), ?_⟩
  exact body_end (m := mlaw_round_moves) h (fun F0 H0 => sx_ret (ex_tup (ax_cons (ex_cb bTupQ (ab_cons ((ox_lc (wx_range1 (ab_cons (bx_var 0) (ab_nil)) (mCons_len (mNil_len))) (gw_name 1) (tx_yes) (ex_op (op_rI cPos_ok) ((ex_cb bInt1 (ab_cons ((ex_op (op_rI0) (bx_var 1) ((ex_int 1).b)).b) (ab_nil))).b) (bx_var 0))).b) (ab_nil))) (ax_nil))))
end
abbrev slaw_part : Stmt := top 48
theorem sclaw_part : FnScope ["_law_group_here", "_law_makers", "_law_found", "_law_fresh", "_law_later", "_law_one", "_law_maker", "_law_more"] ["_law_group_here", "_law_makers"] (defScope slaw_part) := ⟨rfl, rfl, rfl, by decide +kernel, rfl, by decide +kernel, by decide +kernel⟩
def mlaw_part : M Fl := mSeq (mOwnX 2 3 (mDisp ((mC (.int 0), mC (.int 1)) :: [])) (mLst (mCons (mC (.int 0)) (mNil)))) (mSeq (mWhile 40 (mBool (m2 (fEq true) (mAny 3) (mLst (mNil)))) (mSeq (mOwn 4 (mLst (mNil))) (mSeq (mFor (mItL (mFro 3)) (stN 5) (mFor (mItL (mFro 1)) (stN 6) (mSeq (mAsg (m2 fIx (m2 fIx (m2 fGetI (mAny 0) (mC (.str "table"))) (mAny 5)) (mAny 6)) (stN 7)) (mIf (mBool (m2 (fun e d => fHas true d e) (mAny 7) (mAny 2))) (mSeq (mPut 2 (mFro 7) (mC (.int 1))) (mAppend 4 (mFro 7))) (mNext))))) (mAsg (mB (f1 fun d => (seqD d).map D.lst) (mCons (mAny 4) (mNil))) (stN 3))))) (mRet (mB (f1 fun d => (lstD d).map D.tup) (mCons (mB (f1 fSortedKI) (mCons (mAny 2) (mNil))) (mNil)))))
def r_law_part : List D → Option D := runD 8 mlaw_part
section
variable {P : Program} {w : World} {K : PySem.W.Frag} {mg : Str → Option Value} {base : Heap}
theorem ok_law_part {f : Addr} {fd : FuncData} (F : Fun K "_law_part" "_law_part" slaw_part f fd) (z_list : mg "list" = none) (z_sorted : mg "sorted" = none) (z_tuple : mg "tuple" = none) : FnOk P w K mg base CX0 1 f fd ["_law_group_here", "_law_makers"] (spD K 2 r_law_part) := by
  have sc := sclaw_part
  refine F.ok sc (fun vs H Q E h => spD_len h) (fun cdv A outer s H vs Q E hr h => ?_)
  refine ⟨tSeq (tPar 2 3 (tCons (tDisp ((tC (.int 0), tC (.int 1)) :: [])) (tCons (tLst (tCons (tC (.int 0)) (tNil))) tNil))) (tSeq (tWhile (tTest (tOp (rNeD K) (tVar 3) (tLst (tNil)))) (tSeq (tAsg (tLst (tNil)) (gName 4)) (tSeq (tFor (iList K (tVar 3)) (gName 5) (tFor (iList K (tVar 1)) (gName 6) (tSeq (tAsg (tOp (rIx K) (tOp (rIx K) (tDGet (tVar 0) (tC (.str "table"))) (tVar 5)) (tVar 6)) (gName 7)) (tIfS (tB (tDNotIn (tVar 7) (tVar 2))) (tSeq (sDPut (tVar 2) (tVar 7) (tC (.int 1))) (tDrop (tBM K "list" rAppend (tVar 4) (tCons (tVar 7) tNil)))) (tNext))))) (tAsg (tCB (rLstQ K) (tCons (tVar 4) (tNil))) (gName 3))))) (tRet (tCB (rTupQ K) (tCons (tCB (rSortKI) (tCons (tVar 2) (tNil))) (tNil))))), pss_cons (ps_par rfl sc.nd rfl rfl (by decide) rfl rfl (pa_cons (pe_disp (pps_cons (pe_int) (pe_int) (pps_nil)) rfl rfl (by simp) (by decide)) (pa_cons (pe_lst (pa_cons (pe_int) (pa_nil))) pa_nil)) rfl) (pss_cons (ps_while PassesOwn.never (pt_cmpR (op_neD (hu64 hr)) (pv 3) (pe_lst (pa_nil)) (nomark _)) (pss_cons (ps_set (i := 4) sc.nd rfl (.inl rfl) (pe_lst (pa_nil))) (pss_cons (ps_for PassesOwn.never rfl (pi_list (pv 3)) (pg_name (i := 5) sc.nd rfl (.inl rfl)) (pss_one (ps_for PassesOwn.never rfl (pi_list (pv 1)) (pg_name (i := 6) sc.nd rfl (.inl rfl)) (pss_cons (ps_set (i := 7) sc.nd rfl (.inl rfl) (pe_ix ix_seq (pe_ix ix_seq (pe_dget (hu1 hr) (pv 0) (pe_str) (fun _ _ => rfl)) (pv 5) (fun _ _ => rfl)) (pv 6) (fun _ _ => rfl))) (pss_one (ps_if (pt_cmp (pc_dnotin (hu1 hr) (pv 7) (pv 2))) (pss_cons (ps_dput (hu1 hr) (pv 2) (pv 7) (pe_int) rfl) (pss_one (ps_expr (pe_bm PySem.F.plainAttrs_list PySem.F.slot_list_append PySem.F.type_list_append mt_append (pv 4) (pa_cons (pv 7) pa_nil))))) (pss_nil))))))) (pss_one (ps_set (i := 3) sc.nd rfl (.inl rfl) (pe_callTy hLstQ rfl z_list (by decide +kernel) (pa_cons (pv 4) (pa_nil)))))))) (pss_one (ps_ret (pe_callTy hTupQ rfl z_tuple (by decide +kernel) (pa_cons (pe_callB (hSortKI rfl) rfl z_sorted (by decide +kernel) (pa_cons (pv 2) (pa_nil))) (pa_nil)))))), ?_⟩
  exact body_end (m := mlaw_part) h (fun F0 H0 => sx_seq (sx_ownX 2 3 (ox_disp (.cons (ex_int 0) (ex_int 1) (.nil))) ((ox_lst (ax_cons (ex_int 0) (ax_nil))).x)) (sx_seq (sx_while 40 (tx_test (ex_op op_neB (bx_var 3) ((ox_lst (ax_nil)).b)).b) (sx_seq (sx_own 4 (ox_lst (ax_nil))) (sx_seq (sx_for (wx_list (ex_var 3)) (gx_name 5) (sx_for (wx_list (ex_var 1)) (gx_name 6) (sx_seq (sx_asg (ex_ix ((ex_ix ((ex_dget (bx_var 0) ((ex_str "table").b)).b) (bx_var 5)).b) (bx_var 6)) (gx_name 7)) (sx_if (tx_b (ex_dnin (bx_var 7) (bx_var 2)).b) (sx_seq (sx_put 2 (ex_var 7) (ex_int 1)) (sx_append 4 (ex_var 7))) (sx_next))))) (sx_asg ((ox_cb bLstQ (ab_cons (bx_var 4) (ab_nil))).x) (gx_name 3))))) (sx_ret (ex_cb bTupQ (ab_cons ((ox_cb bSortKI (ab_cons (bx_var 2) (ab_nil))).b) (ab_nil))))))
end
abbrev slaw_moved_part : Stmt := top 50
theorem sclaw_moved_part : FnScope ["_law_group_here", "_law_part_here", "_law_member", "_law_back", "_law_one"] ["_law_group_here", "_law_part_here", "_law_member"] (defScope slaw_moved_part) := ⟨rfl, rfl, rfl, by decide +kernel, rfl, by decide +kernel, by decide +kernel⟩
def mlaw_moved_part : M Fl := mSeq (mAsg (m2 fIx (m2 fGetI (mAny 0) (mC (.str "back"))) (mAny 2)) (stN 3)) (mRet (mB (f1 fun d => (lstD d).map D.tup) (mCons (mB (f1 fSorted) (mCons (mLc [4] (mItT (mFro 1)) (stN 4) (fun _ => some true) (m2 fIx (m2 fIx (m2 fGetI (mAny 0) (mC (.str "table"))) (m2 fIx (m2 fIx (m2 fGetI (mAny 0) (mC (.str "table"))) (mAny 2)) (mAny 4))) (mAny 3))) (mNil))) (mNil))))
def r_law_moved_part : List D → Option D := runD 5 mlaw_moved_part
section
variable {P : Program} {w : World} {K : PySem.W.Frag} {mg : Str → Option Value} {base : Heap}
theorem ok_law_moved_part {f : Addr} {fd : FuncData} (F : Fun K "_law_moved_part" "_law_moved_part" slaw_moved_part f fd) (z_sorted : mg "sorted" = none) (z_tuple : mg "tuple" = none) : FnOk P w K mg base CX0 1 f fd ["_law_group_here", "_law_part_here", "_law_member"] (spD K 3 r_law_moved_part) := by
  have sc := sclaw_moved_part
  refine F.ok sc (fun vs H Q E h => spD_len h) (fun cdv A outer s H vs Q E hr h => ?_)
  refine ⟨tSeq (tAsg (tOp (rIx K) (tDGet (tVar 0) (tC (.str "back"))) (tVar 2)) (gName 3)) (tRet (tCB (rTupQ K) (tCons (tCB (rSortedI K) (tCons (tLc (iTup K (tVar 1)) (gName 4) (tYes) (tOp (rIx K) (tOp (rIx K) (tDGet (tVar 0) (tC (.str "table"))) (tOp (rIx K) (tOp (rIx K) (tDGet (tVar 0) (tC (.str "table"))) (tVar 2)) (tVar 4))) (tVar 3)) [4]) (tNil))) (tNil)))), pss_cons (ps_set (i := 3) sc.nd rfl (.inr rfl) (pe_ix ix_seq (pe_dget (hu1 hr) (pv 0) (pe_str) (fun _ _ => rfl)) (pv 2) (fun _ _ => rfl))) (pss_one (ps_ret (pe_callTy hTupQ rfl z_tuple (by decide +kernel) (pa_cons (pe_callB cr_sortedI rfl z_sorted (by decide +kernel) (pa_cons (pe_lc (own := [("_law_one", 4)]) rfl sc.nd (pi_tup (pv 1)) (blkOk_by (by rfl)) (fun _ _ _ _ _ => pg_name (i := 4) sc.nd rfl (.inl rfl)) (fun _ _ _ _ _ => pts_nil) (fun _ _ _ _ _ => pe_ix ix_seq (pe_ix ix_seq (pe_dget (hu1 hr) (pv 0) (pe_str) (fun _ _ => rfl)) (pe_ix ix_seq (pe_ix ix_seq (pe_dget (hu1 hr) (pv 0) (pe_str) (fun _ _ => rfl)) (pv 2) (fun _ _ => rfl)) (pv 4) (fun _ _ => rfl)) (fun _ _ => rfl)) (pv 3) (fun _ _ => rfl))) (pa_nil))) (pa_nil))))), ?_⟩
  exact body_end (m := mlaw_moved_part) h (fun F0 H0 => sx_seq (sx_asg (ex_ix ((ex_dget (bx_var 0) ((ex_str "back").b)).b) (bx_var 2)) (gx_name 3)) (sx_ret (ex_cb bTupQ (ab_cons ((ox_cb co_sorted (ab_cons ((ox_lc (wx_tup (ex_var 1)) (gw_name 4) (tx_yes) (ex_ix ((ex_ix ((ex_dget (bx_var 0) ((ex_str "table").b)).b) ((ex_ix ((ex_ix ((ex_dget (bx_var 0) ((ex_str "table").b)).b) (bx_var 2)).b) (bx_var 4)).b)).b) (bx_var 3))).b) (ab_nil))).b) (ab_nil)))))
end
abbrev slaw_greatest : Stmt := top 51
theorem sclaw_greatest : FnScope ["_law_size", "_law_prime", "_law_found"] ["_law_size", "_law_prime"] (defScope slaw_greatest) := ⟨rfl, rfl, rfl, by decide +kernel, rfl, by decide +kernel, by decide +kernel⟩
def mlaw_greatest : M Fl := mSeq (mAsg (mC (.int 1)) (stN 2)) (mSeq (mWhile 200 (mBool (m2 (fEq false) (m2 (fI cPos fun i j => i % j) (mAny 0) (m2 (fI cMul fun i j => i * j) (mAny 2) (mAny 1))) (mC (.int 0)))) (mAsg (m2 (fI cMul fun i j => i * j) (mAny 2) (mAny 1)) (stN 2))) (mRet (mFro 2)))
def r_law_greatest : List D → Option D := runD 3 mlaw_greatest
section
variable {P : Program} {w : World} {K : PySem.W.Frag} {mg : Str → Option Value} {base : Heap}
theorem ok_law_greatest {f : Addr} {fd : FuncData} (F : Fun K "_law_greatest" "_law_greatest" slaw_greatest f fd)  : FnOk P w K mg base CX0 1 f fd ["_law_size", "_law_prime"] (spD K 2 r_law_greatest) := by
  have sc := sclaw_greatest
  refine F.ok sc (fun vs H Q E h => spD_len h) (fun cdv A outer s H vs Q E hr h => ?_)
  refine ⟨tSeq (tAsg (tC (.int 1)) (gName 2)) (tSeq (tWhile (tTest (tOp (rEqD K) (tOp (rI (fun _ j => 0 < j) fun i j => V.int (i % j)) (tVar 0) (tOp (rI CMul fun i j => V.int (i * j)) (tVar 2) (tVar 1))) (tC (.int 0)))) (tAsg (tOp (rI CMul fun i j => V.int (i * j)) (tVar 2) (tVar 1)) (gName 2))) (tRet (tVar 2))), pss_cons (ps_set (i := 2) sc.nd rfl (.inl rfl) (pe_int)) (pss_cons (ps_while PassesOwn.never (pt_cmpR (op_eqD (hu64 hr)) (pe_op op_mod (pv 0) (pe_op op_mul (pv 2) (pv 1))) (pe_int) (nomark _)) (pss_one (ps_set (i := 2) sc.nd rfl (.inl rfl) (pe_op op_mul (pv 2) (pv 1))))) (pss_one (ps_ret (pv 2)))), ?_⟩
  exact body_end (m := mlaw_greatest) h (fun F0 H0 => sx_seq (sx_asg (ex_int 1) (gx_name 2)) (sx_seq (sx_while 200 (tx_test (ex_op op_eqB ((ex_op (op_rI cPos_ok) (bx_var 0) ((ex_op (op_rI cMul_ok) (bx_var 2) (bx_var 1)).b)).b) ((ex_int 0).b)).b) (sx_asg (ex_op (op_rI cMul_ok) (bx_var 2) (bx_var 1)) (gx_name 2))) (sx_ret (ex_var 2))))
end
abbrev sp_size : Stmt := inClass (top 16) 2
theorem scp_size : FnScope ["self"] ["self"] (defScope sp_size) := ⟨rfl, rfl, rfl, by decide +kernel, rfl, by decide +kernel, by decide +kernel⟩
def mp_size : M Fl := mRet (mB (f1 fLen) (mCons (mFld aG "_moves" (mAny 0)) (mNil)))
def r_p_size : List D → Option D := runD 1 mp_size
section
variable {P : Program} {w : World} {K : PySem.W.Frag} {mg : Str → Option Value} {base : Heap}
theorem ok_p_size {f : Addr} {fd : FuncData} (F : Fun K "size" "Group.size" sp_size f fd) (T : Txt K) (z_len : mg "len" = none) : FnOk P w K mg base CX0 1 f fd ["self"] (spD K 1 r_p_size) := by
  have sc := scp_size
  refine F.ok sc (fun vs H Q E h => spD_len h) (fun cdv A outer s H vs Q E hr h => ?_)
  refine ⟨tRet (tCB (rLenQ K) (tCons (tFld K (tVar 0) "_moves") (tNil))), pss_one (ps_ret (pe_callB hLenQ rfl z_len (by decide +kernel) (pa_cons (pe_fld (pv 0) (by rfl)) (pa_nil)))), ?_⟩
  exact body_end (m := mp_size) h (fun F0 H0 => sx_ret (ex_cb bLenQ (ab_cons ((ex_fld T.cl T.n_moves (bx_var 0)).b) (ab_nil))))
end
abbrev sp_moves : Stmt := inClass (top 16) 3
theorem scp_moves : FnScope ["self"] ["self"] (defScope sp_moves) := ⟨rfl, rfl, rfl, by decide +kernel, rfl, by decide +kernel, by decide +kernel⟩
def mp_moves : M Fl := mRet (mFld aG "_moves" (mAny 0))
def r_p_moves : List D → Option D := runD 1 mp_moves
section
variable {P : Program} {w : World} {K : PySem.W.Frag} {mg : Str → Option Value} {base : Heap}
theorem ok_p_moves {f : Addr} {fd : FuncData} (F : Fun K "moves" "Group.moves" sp_moves f fd) (T : Txt K) : FnOk P w K mg base CX0 1 f fd ["self"] (spD K 1 r_p_moves) := by
  have sc := scp_moves
  refine F.ok sc (fun vs H Q E h => spD_len h) (fun cdv A outer s H vs Q E hr h => ?_)
  refine ⟨tRet (tFld K (tVar 0) "_moves"), pss_one (ps_ret (pe_fld (pv 0) (by rfl))), ?_⟩
  exact body_end (m := mp_moves) h (fun F0 H0 => sx_ret (ex_fld T.cl T.n_moves (bx_var 0)))
end
abbrev sp_all_products : Stmt := inClass (top 16) 4
theorem scp_all_products : FnScope ["self"] ["self"] (defScope sp_all_products) := ⟨rfl, rfl, rfl, by decide +kernel, rfl, by decide +kernel, by decide +kernel⟩
def mp_all_products : M Fl := mRet (mFld aG "_products" (mAny 0))
def r_p_all_products : List D → Option D := runD 1 mp_all_products
section
variable {P : Program} {w : World} {K : PySem.W.Frag} {mg : Str → Option Value} {base : Heap}
theorem ok_p_all_products {f : Addr} {fd : FuncData} (F : Fun K "all_products" "Group.all_products" sp_all_products f fd) (T : Txt K) : FnOk P w K mg base CX0 1 f fd ["self"] (spD K 1 r_p_all_products) := by
  have sc := scp_all_products
  refine F.ok sc (fun vs H Q E h => spD_len h) (fun cdv A outer s H vs Q E hr h => ?_)
  refine ⟨tRet (tFld K (tVar 0) "_products"), pss_one (ps_ret (pe_fld (pv 0) (by rfl))), ?_⟩
  exact body_end (m := mp_all_products) h (fun F0 H0 => sx_ret (ex_fld T.cl T.n_products (bx_var 0)))
end
abbrev sp_all_inverses : Stmt := inClass (top 16) 5
theorem scp_all_inverses : FnScope ["self"] ["self"] (defScope sp_all_inverses) := ⟨rfl, rfl, rfl, by decide +kernel, rfl, by decide +kernel, by decide +kernel⟩
def mp_all_inverses : M Fl := mRet (mFld aG "_inverses" (mAny 0))
def r_p_all_inverses : List D → Option D := runD 1 mp_all_inverses
section
variable {P : Program} {w : World} {K : PySem.W.Frag} {mg : Str → Option Value} {base : Heap}
theorem ok_p_all_inverses {f : Addr} {fd : FuncData} (F : Fun K "all_inverses" "Group.all_inverses" sp_all_inverses f fd) (T : Txt K) : FnOk P w K mg base CX0 1 f fd ["self"] (spD K 1 r_p_all_inverses) := by
  have sc := scp_all_inverses
  refine F.ok sc (fun vs H Q E h => spD_len h) (fun cdv A outer s H vs Q E hr h => ?_)
  refine ⟨tRet (tFld K (tVar 0) "_inverses"), pss_one (ps_ret (pe_fld (pv 0) (by rfl))), ?_⟩
  exact body_end (m := mp_all_inverses) h (fun F0 H0 => sx_ret (ex_fld T.cl T.n_inverses (bx_var 0)))
end
abbrev sis_member : Stmt := top 24
theorem scis_member : FnScope ["group", "value"] ["group", "value"] (defScope sis_member) := ⟨rfl, rfl, rfl, by decide +kernel, rfl, by decide +kernel, by decide +kernel⟩
def mis_member : M Fl := mRet (mCall 3 r_is_within (mCons (mFro 1) (mCons (mC (.int 0)) (mCons (m2 (fI (fun _ _ => true) fun i j => i - j) (mProp aG r_p_size (mFro 0)) (mC (.int 1))) (mNil)))))
def r_is_member : List D → Option D := runD 2 mis_member
section
variable {P : Program} {w : World} {K : PySem.W.Frag} {mg : Str → Option Value} {base : Heap}
theorem ok_is_member {f : Addr} {fd : FuncData} (F : Fun K "is_member" "is_member" sis_member f fd) (F_is_within : Own P w K mg base 3 "is_within" 3 r_is_within) (Pr_size : OwnProp P w K mg base 1 aG "size" r_p_size) : FnOk P w K mg base CX0 4 f fd ["group", "value"] (spD K 2 r_is_member) := by
  have sc := scis_member
  refine F.ok sc (fun vs H Q E h => spD_len h) (fun cdv A outer s H vs Q E hr h => ?_)
  refine ⟨tRet (tCall (spD K 3 r_is_within) [] E0 (tCons (tVar 1) (tCons (tC (.int 0)) (tCons (tOp (rI0 fun i j => V.int (i - j)) (tProp aG (spD K 1 r_p_size) [] E0 (tVar 0)) (tC (.int 1))) (tNil))))), pss_one (ps_ret (pe_call F_is_within.F (hr.mono (by decide)) rfl F_is_within.g F_is_within.k F_is_within.b .nil pass0 (pa_cons (pv 1) (pa_cons (pe_int) (pa_cons (pe_op op_sub (pe_prop (pv 0) Pr_size.c Pr_size.h Pr_size.F (hr.mono (by decide)) Pr_size.b .nil pass0 (by rfl)) (pe_int)) (pa_nil)))))), ?_⟩
  exact body_end (m := mis_member) h (fun F0 H0 => sx_ret (ex_call (ax_cons (ex_var 1) (ax_cons (ex_int 0) (ax_cons (ex_op (op_rI0) ((ex_prop (ex_var 0)).b) ((ex_int 1).b)) (ax_nil))))))
end
abbrev sneed_group : Stmt := top 25
theorem scneed_group : FnScope ["group"] ["group"] (defScope sneed_group) := ⟨rfl, rfl, rfl, by decide +kernel, rfl, by decide +kernel, by decide +kernel⟩
def mneed_group : M Fl := mIf (mNot (mBool (mB (fIsi (isInsD aG) (isCstD aG) true) (mCons (mAny 0) (mCons (mC (.cst aG)) mNil))))) (mStop) (mNext)
def r_need_group : List D → Option D := runD 1 mneed_group
section
variable {P : Program} {w : World} {K : PySem.W.Frag} {mg : Str → Option Value} {base : Heap}
theorem ok_need_group {f : Addr} {fd : FuncData} (F : Fun K "need_group" "need_group" sneed_group f fd) (T : Txt K) (g_Group : mg "Group" = some (.ref aG)) (z_isinstance : mg "isinstance" = none) : FnOk P w K mg base CX0 1 f fd ["group"] (spD K 1 r_need_group) := by
  have sc := scneed_group
  refine F.ok sc (fun vs H Q E h => spD_len h) (fun cdv A outer s H vs Q E hr h => ?_)
  refine ⟨tIfS (tNot (tB (tCB (rIsi K) (tCons (tVar 0) (tCons (tC (.ref aG)) tNil))))) ((fun _ _ _ => False)) (tNext), pss_one (ps_if (pt_not (pt_val (pe_callB call_isi rfl z_isinstance (by decide +kernel) (pa_cons (pv 0) (pa_cons (pe_glob rfl g_Group rfl) pa_nil))) (fun _ => rfl))) (pss_one (ps_no)) (pss_nil)), ?_⟩
  exact body_end (m := mneed_group) h (fun F0 H0 => sx_if (tx_not (tx_b ((ex_cb (cb_isi (kd := isInsD aG) (cd := isCstD aG) (tyx_ins T.cl T.h2 T.h3 T.h4 T.h5) cls_own T.kit) (ab_cons (bx_var 0) (ab_cons ((ex_c (fun _ => .cst aG)).b) ab_nil))).b))) (sx_stop) (sx_next))
end
abbrev sneed_member : Stmt := top 26
theorem scneed_member : FnScope ["group", "value"] ["group", "value"] (defScope sneed_member) := ⟨rfl, rfl, rfl, by decide +kernel, rfl, by decide +kernel, by decide +kernel⟩
def mneed_member : M Fl := mIf (mNot (mBool (mCall 2 r_is_member (mCons (mFro 0) (mCons (mFro 1) (mNil)))))) (mStop) (mNext)
def r_need_member : List D → Option D := runD 2 mneed_member
section
variable {P : Program} {w : World} {K : PySem.W.Frag} {mg : Str → Option Value} {base : Heap}
theorem ok_need_member {f : Addr} {fd : FuncData} (F : Fun K "need_member" "need_member" sneed_member f fd) (F_is_member : Own P w K mg base 4 "is_member" 2 r_is_member) : FnOk P w K mg base CX0 5 f fd ["group", "value"] (spD K 2 r_need_member) := by
  have sc := scneed_member
  refine F.ok sc (fun vs H Q E h => spD_len h) (fun cdv A outer s H vs Q E hr h => ?_)
  refine ⟨tIfS (tNot (tB (tCall (spD K 2 r_is_member) [] E0 (tCons (tVar 0) (tCons (tVar 1) (tNil)))))) ((fun _ _ _ => False)) (tNext), pss_one (ps_if (pt_not (pt_val (pe_call F_is_member.F (hr.mono (by decide)) rfl F_is_member.g F_is_member.k F_is_member.b .nil pass0 (pa_cons (pv 0) (pa_cons (pv 1) (pa_nil)))) (fun _ => rfl))) (pss_one (ps_no)) (pss_nil)), ?_⟩
  exact body_end (m := mneed_member) h (fun F0 H0 => sx_if (tx_not (tx_b ((ex_call (ax_cons (ex_var 0) (ax_cons (ex_var 1) (ax_nil)))).b))) (sx_stop) (sx_next))
end
abbrev sis_group_part : Stmt := top 28
theorem scis_group_part : FnScope ["group", "value", "member"] ["group", "value"] (defScope sis_group_part) := ⟨rfl, rfl, rfl, by decide +kernel, rfl, by decide +kernel, by decide +kernel⟩
def mis_group_part : M Fl := mSeq ((fun δ => ((mCall 1 r_need_group (mCons (mFro 0) (mNil))) δ).map fun _ => .nx δ)) (mSeq (mIf (mOr (mNot (mBool (mB (fIsi (isTupD) (isTyD "tuple") true) (mCons (mAny 1) (mCons (mC (.ty "tuple")) mNil))))) (mNot (mBool (mB (f1 fAll) (mCons (mLc [2] (mItT (mFro 1)) (stN 2) (fun _ => some true) (mCall 2 r_is_member (mCons (mFro 0) (mCons (mFro 2) (mNil))))) (mNil)))))) (mRet (mC (.bl false))) (mNext)) (mRet (mAndV (m2 (fInF false) (mC (.int 0)) (mAny 1)) (m2 (fEq false) (mAny 1) (mCall 2 r_closed_members (mCons (mProp aG r_p_all_products (mFro 0)) (mCons (mFro 1) (mNil))))))))
def r_is_group_part : List D → Option D := runD 3 mis_group_part
section
variable {P : Program} {w : World} {K : PySem.W.Frag} {mg : Str → Option Value} {base : Heap}
theorem ok_is_group_part {f : Addr} {fd : FuncData} (F : Fun K "is_group_part" "is_group_part" sis_group_part f fd) (F_closed_members : Own P w K mg base 1 "closed_members" 2 r_closed_members) (F_is_member : Own P w K mg base 4 "is_member" 2 r_is_member) (F_need_group : Own P w K mg base 1 "need_group" 1 r_need_group) (Pr_all_products : OwnProp P w K mg base 1 aG "all_products" r_p_all_products) (z_all : mg "all" = none) (z_isinstance : mg "isinstance" = none) (z_tuple : mg "tuple" = none) : FnOk P w K mg base CX0 5 f fd ["group", "value"] (spD K 2 r_is_group_part) := by
  have sc := scis_group_part
  refine F.ok sc (fun vs H Q E h => spD_len h) (fun cdv A outer s H vs Q E hr h => ?_)
  refine ⟨tSeq (tDrop (tCall (spD K 1 r_need_group) [] E0 (tCons (tVar 0) (tNil)))) (tSeq (tIfS (tOr (tNot (tB (tCB (rIsi K) (tCons (tVar 1) (tCons (tC (.ty "tuple")) tNil))))) (tNot (tB (tCB (rAll K) (tCons (tLc (iTup K (tVar 1)) (gName 2) (tYes) (tCall (spD K 2 r_is_member) [] E0 (tCons (tVar 0) (tCons (tVar 2) (tNil)))) [2]) (tNil)))))) (tRet (tC (.bl false))) (tNext)) (tRet (tAndV (tOp (rIn K false) (tC (.int 0)) (tVar 1)) (tOp (rEqD K) (tVar 1) (tCall (spD K 2 r_closed_members) [] E0 (tCons (tProp aG (spD K 1 r_p_all_products) [] E0 (tVar 0)) (tCons (tVar 1) (tNil)))))))), pss_cons (ps_expr (pe_call F_need_group.F (hr.mono (by decide)) rfl F_need_group.g F_need_group.k F_need_group.b .nil pass0 (pa_cons (pv 0) (pa_nil)))) (pss_cons (ps_if (PW.pt (pw_or (pt_not (pt_val (pe_callB call_isi rfl z_isinstance (by decide +kernel) (pa_cons (pv 1) (pa_cons (pe_bltn rfl z_tuple (by decide +kernel) rfl) pa_nil))) (fun _ => rfl))) (pw_or1 (pt_not (pt_val (pe_callB (cr_all rfl) rfl z_all (by decide +kernel) (pa_cons (pe_lc (own := [("member", 2)]) rfl sc.nd (pi_tup (pv 1)) (blkOk_by (by rfl)) (fun _ _ _ _ _ => pg_name (i := 2) sc.nd rfl (.inl rfl)) (fun _ _ _ _ _ => pts_nil) (fun _ _ _ _ _ => pe_call F_is_member.F (hr.mono (by decide)) rfl F_is_member.g F_is_member.k F_is_member.b .nil pass0 (pa_cons (pv 0) (pa_cons (pv 2) (pa_nil))))) (pa_nil))) (fun _ => rfl)))))) (pss_one (ps_ret (pe_bl))) (pss_nil)) (pss_one (ps_ret (pe_and (pe_cmpR op_in_seq (pe_int) (pv 1) (by rfl)) (pe_one (pe_cmpR (op_eqD (hu64 hr)) (pv 1) (pe_call F_closed_members.F (hr.mono (by decide)) rfl F_closed_members.g F_closed_members.k F_closed_members.b .nil pass0 (pa_cons (pe_prop (pv 0) Pr_all_products.c Pr_all_products.h Pr_all_products.F (hr.mono (by decide)) Pr_all_products.b .nil pass0 (by rfl)) (pa_cons (pv 1) (pa_nil)))) (nomark _))))))), ?_⟩
  exact body_end (m := mis_group_part) h (fun F0 H0 => sx_seq (sx_expr (ex_call (ax_cons (ex_var 0) (ax_nil))).b) (sx_seq (sx_if (tx_or (tx_not (tx_b ((ex_cb (cb_isi (kd := isTupD) (cd := isTyD "tuple") tyx_tup cls_ty (kit_ty (by decide +kernel))) (ab_cons (bx_var 1) (ab_cons ((ex_ty "tuple").b) ab_nil))).b))) (tx_not (tx_b ((ex_cb cb_all (ab_cons ((ox_lc (wx_tup (ex_var 1)) (gw_name 2) (tx_yes) (ex_call (ax_cons (ex_var 0) (ax_cons (ex_var 2) (ax_nil))))).b) (ab_nil))).b)))) (sx_ret (ex_bl false)) (sx_next)) (sx_ret (ex_and ((ex_op op_inF ((ex_int 0).b) (bx_var 1)).b) (ex_op op_eqB (bx_var 1) ((ex_call (ax_cons (ex_prop (ex_var 0)) (ax_cons (ex_var 1) (ax_nil)))).b))))))
end
abbrev sneed_part : Stmt := top 27
theorem scneed_part : FnScope ["group", "part"] ["group", "part"] (defScope sneed_part) := ⟨rfl, rfl, rfl, by decide +kernel, rfl, by decide +kernel, by decide +kernel⟩
def mneed_part : M Fl := mIf (mNot (mBool (mCall 2 r_is_group_part (mCons (mFro 0) (mCons (mFro 1) (mNil)))))) (mStop) (mNext)
def r_need_part : List D → Option D := runD 2 mneed_part
section
variable {P : Program} {w : World} {K : PySem.W.Frag} {mg : Str → Option Value} {base : Heap}
theorem ok_need_part {f : Addr} {fd : FuncData} (F : Fun K "need_part" "need_part" sneed_part f fd) (F_is_group_part : Own P w K mg base 5 "is_group_part" 2 r_is_group_part) : FnOk P w K mg base CX0 6 f fd ["group", "part"] (spD K 2 r_need_part) := by
  have sc := scneed_part
  refine F.ok sc (fun vs H Q E h => spD_len h) (fun cdv A outer s H vs Q E hr h => ?_)
  refine ⟨tIfS (tNot (tB (tCall (spD K 2 r_is_group_part) [] E0 (tCons (tVar 0) (tCons (tVar 1) (tNil)))))) ((fun _ _ _ => False)) (tNext), pss_one (ps_if (pt_not (pt_val (pe_call F_is_group_part.F (hr.mono (by decide)) rfl F_is_group_part.g F_is_group_part.k F_is_group_part.b .nil pass0 (pa_cons (pv 0) (pa_cons (pv 1) (pa_nil)))) (fun _ => rfl))) (pss_one (ps_no)) (pss_nil)), ?_⟩
  exact body_end (m := mneed_part) h (fun F0 H0 => sx_if (tx_not (tx_b ((ex_call (ax_cons (ex_var 0) (ax_cons (ex_var 1) (ax_nil)))).b))) (sx_stop) (sx_next))
end
abbrev smoved_members : Stmt := top 31
theorem scmoved_members : FnScope ["group", "part", "member", "products", "back", "inner"] ["group", "part", "member"] (defScope smoved_members) := ⟨rfl, rfl, rfl, by decide +kernel, rfl, by decide +kernel, by decide +kernel⟩
def mmoved_members : M Fl := mSeq (mAsg (mTup (mCons (mProp aG r_p_all_products (mFro 0)) (mCons (m2 fIx (mProp aG r_p_all_inverses (mFro 0)) (mAny 2)) (mNil)))) (stTup 2 (stCons (stN 3) (stCons (stN 4) (stNil))))) (mRet (mB (f1 fun d => (lstD d).map D.tup) (mCons (mB (f1 fSorted) (mCons (mLc [5] (mItT (mFro 1)) (stN 5) (fun _ => some true) (m2 fIx (m2 fIx (mAny 3) (m2 fIx (m2 fIx (mAny 3) (mAny 2)) (mAny 5))) (mAny 4))) (mNil))) (mNil))))
def r_moved_members : List D → Option D := runD 6 mmoved_members
section
variable {P : Program} {w : World} {K : PySem.W.Frag} {mg : Str → Option Value} {base : Heap}
theorem ok_moved_members {f : Addr} {fd : FuncData} (F : Fun K "moved_members" "moved_members" smoved_members f fd) (Pr_all_inverses : OwnProp P w K mg base 1 aG "all_inverses" r_p_all_inverses) (Pr_all_products : OwnProp P w K mg base 1 aG "all_products" r_p_all_products) (z_sorted : mg "sorted" = none) (z_tuple : mg "tuple" = none) : FnOk P w K mg base CX0 3 f fd ["group", "part", "member"] (spD K 3 r_moved_members) := by
  have sc := scmoved_members
  refine F.ok sc (fun vs H Q E h => spD_len h) (fun cdv A outer s H vs Q E hr h => ?_)
  refine ⟨tSeq (tAsg (tTup (tCons (tProp aG (spD K 1 r_p_all_products) [] E0 (tVar 0)) (tCons (tOp (rIx K) (tProp aG (spD K 1 r_p_all_inverses) [] E0 (tVar 0)) (tVar 2)) (tNil)))) (gTup K 2 (gCons (gName 3) (gCons (gName 4) (gNil))))) (tRet (tCB (rTupQ K) (tCons (tCB (rSortedI K) (tCons (tLc (iTup K (tVar 1)) (gName 5) (tYes) (tOp (rIx K) (tOp (rIx K) (tVar 3) (tOp (rIx K) (tOp (rIx K) (tVar 3) (tVar 2)) (tVar 5))) (tVar 4)) [5]) (tNil))) (tNil)))), pss_cons (ps_asg (pe_tup (pa_cons (pe_prop (pv 0) Pr_all_products.c Pr_all_products.h Pr_all_products.F (hr.mono (by decide)) Pr_all_products.b .nil pass0 (by rfl)) (pa_cons (pe_ix ix_seq (pe_prop (pv 0) Pr_all_inverses.c Pr_all_inverses.h Pr_all_inverses.F (hr.mono (by decide)) Pr_all_inverses.b .nil pass0 (by rfl)) (pv 2) (fun _ _ => rfl)) (pa_nil)))) (pg_tup rfl (pgs_cons (pg_name (i := 3) sc.nd rfl (.inr rfl)) (pgs_cons (pg_name (i := 4) sc.nd rfl (.inr rfl)) (pgs_nil))))) (pss_one (ps_ret (pe_callTy hTupQ rfl z_tuple (by decide +kernel) (pa_cons (pe_callB cr_sortedI rfl z_sorted (by decide +kernel) (pa_cons (pe_lc (own := [("inner", 5)]) rfl sc.nd (pi_tup (pv 1)) (blkOk_by (by rfl)) (fun _ _ _ _ _ => pg_name (i := 5) sc.nd rfl (.inl rfl)) (fun _ _ _ _ _ => pts_nil) (fun _ _ _ _ _ => pe_ix ix_seq (pe_ix ix_seq (pv 3) (pe_ix ix_seq (pe_ix ix_seq (pv 3) (pv 2) (fun _ _ => rfl)) (pv 5) (fun _ _ => rfl)) (fun _ _ => rfl)) (pv 4) (fun _ _ => rfl))) (pa_nil))) (pa_nil))))), ?_⟩
  exact body_end (m := mmoved_members) h (fun F0 H0 => sx_seq (sx_asg (ex_tup (ax_cons (ex_prop (ex_var 0)) (ax_cons (ex_ix ((ex_prop (ex_var 0)).b) (bx_var 2)) (ax_nil)))) (gx_tup (gsx_cons (gx_name 3) (gsx_cons (gx_name 4) (gsx_nil))))) (sx_ret (ex_cb bTupQ (ab_cons ((ox_cb co_sorted (ab_cons ((ox_lc (wx_tup (ex_var 1)) (gw_name 5) (tx_yes) (ex_ix ((ex_ix (bx_var 3) ((ex_ix ((ex_ix (bx_var 3) (bx_var 2)).b) (bx_var 5)).b)).b) (bx_var 4))).b) (ab_nil))).b) (ab_nil)))))
end
abbrev smoved_part : Stmt := top 30
theorem scmoved_part : FnScope ["group", "part", "member"] ["group", "part", "member"] (defScope smoved_part) := ⟨rfl, rfl, rfl, by decide +kernel, rfl, by decide +kernel, by decide +kernel⟩
def mmoved_part : M Fl := mSeq ((fun δ => ((mCall 2 r_need_part (mCons (mFro 0) (mCons (mFro 1) (mNil)))) δ).map fun _ => .nx δ)) (mSeq ((fun δ => ((mCall 2 r_need_member (mCons (mFro 0) (mCons (mFro 2) (mNil)))) δ).map fun _ => .nx δ)) (mRet (mCall 3 r_moved_members (mCons (mFro 0) (mCons (mFro 1) (mCons (mFro 2) (mNil)))))))
def r_moved_part : List D → Option D := runD 3 mmoved_part
section
variable {P : Program} {w : World} {K : PySem.W.Frag} {mg : Str → Option Value} {base : Heap}
theorem ok_moved_part {f : Addr} {fd : FuncData} (F : Fun K "moved_part" "moved_part" smoved_part f fd) (F_moved_members : Own P w K mg base 3 "moved_members" 3 r_moved_members) (F_need_member : Own P w K mg base 5 "need_member" 2 r_need_member) (F_need_part : Own P w K mg base 6 "need_part" 2 r_need_part) : FnOk P w K mg base CX0 7 f fd ["group", "part", "member"] (spD K 3 r_moved_part) := by
  have sc := scmoved_part
  refine F.ok sc (fun vs H Q E h => spD_len h) (fun cdv A outer s H vs Q E hr h => ?_)
  refine ⟨tSeq (tDrop (tCall (spD K 2 r_need_part) [] E0 (tCons (tVar 0) (tCons (tVar 1) (tNil))))) (tSeq (tDrop (tCall (spD K 2 r_need_member) [] E0 (tCons (tVar 0) (tCons (tVar 2) (tNil))))) (tRet (tCall (spD K 3 r_moved_members) [] E0 (tCons (tVar 0) (tCons (tVar 1) (tCons (tVar 2) (tNil))))))), pss_cons (ps_expr (pe_call F_need_part.F (hr.mono (by decide)) rfl F_need_part.g F_need_part.k F_need_part.b .nil pass0 (pa_cons (pv 0) (pa_cons (pv 1) (pa_nil))))) (pss_cons (ps_expr (pe_call F_need_member.F (hr.mono (by decide)) rfl F_need_member.g F_need_member.k F_need_member.b .nil pass0 (pa_cons (pv 0) (pa_cons (pv 2) (pa_nil))))) (pss_one (ps_ret (pe_call F_moved_members.F (hr.mono (by decide)) rfl F_moved_members.g F_moved_members.k F_moved_members.b .nil pass0 (pa_cons (pv 0) (pa_cons (pv 1) (pa_cons (pv 2) (pa_nil)))))))), ?_⟩
  exact body_end (m := mmoved_part) h (fun F0 H0 => sx_seq (sx_expr (ex_call (ax_cons (ex_var 0) (ax_cons (ex_var 1) (ax_nil)))).b) (sx_seq (sx_expr (ex_call (ax_cons (ex_var 0) (ax_cons (ex_var 2) (ax_nil)))).b) (sx_ret (ex_call (ax_cons (ex_var 0) (ax_cons (ex_var 1) (ax_cons (ex_var 2) (ax_nil))))))))
end
abbrev sneed_prime : Stmt := top 32
theorem scneed_prime : FnScope ["prime"] ["prime"] (defScope sneed_prime) := ⟨rfl, rfl, rfl, by decide +kernel, rfl, by decide +kernel, by decide +kernel⟩
def mneed_prime : M Fl := mIf (mOr (mNot (mBool (mCall 1 r_is_integer (mCons (mFro 0) (mNil))))) (mBool (m2 (fInF true) (mAny 0) (mC (ktupD [2, 3, 5, 7, 11, 13, 17, 19, 23, 29, 31]))))) (mStop) (mNext)
def r_need_prime : List D → Option D := runD 1 mneed_prime
section
variable {P : Program} {w : World} {K : PySem.W.Frag} {mg : Str → Option Value} {base : Heap}
theorem ok_need_prime {f : Addr} {fd : FuncData} (F : Fun K "need_prime" "need_prime" sneed_prime f fd) (F_is_integer : Own P w K mg base 2 "is_integer" 1 r_is_integer) (g_PRIMES : mg "PRIMES" = some (.ref aPR)) (k_PRIMES : KTup K aPR [2, 3, 5, 7, 11, 13, 17, 19, 23, 29, 31]) : FnOk P w K mg base CX0 3 f fd ["prime"] (spD K 1 r_need_prime) := by
  have sc := scneed_prime
  refine F.ok sc (fun vs H Q E h => spD_len h) (fun cdv A outer s H vs Q E hr h => ?_)
  refine ⟨tIfS (tOr (tNot (tB (tCall (spD K 1 r_is_integer) [] E0 (tCons (tVar 0) (tNil))))) (tTest (tOp (rIn K true) (tVar 0) (tC (.ref aPR))))) ((fun _ _ _ => False)) (tNext), pss_one (ps_if (PW.pt (pw_or (pt_not (pt_val (pe_call F_is_integer.F (hr.mono (by decide)) rfl F_is_integer.g F_is_integer.k F_is_integer.b .nil pass0 (pa_cons (pv 0) (pa_nil))) (fun _ => rfl))) (pw_or1 (pt_cmpR op_notIn_seq (pv 0) (pe_glob rfl g_PRIMES rfl) (by rfl))))) (pss_one (ps_no)) (pss_nil)), ?_⟩
  exact body_end (m := mneed_prime) h (fun F0 H0 => sx_if (tx_or (tx_not (tx_b ((ex_call (ax_cons (ex_var 0) (ax_nil))).b))) (tx_test (ex_op op_inF (bx_var 0) ((ex_c (ktup_rp k_PRIMES)).b)).b)) (sx_stop) (sx_next))
end
abbrev sgreater_part : Stmt := top 34
theorem scgreater_part : FnScope ["group", "part", "prime", "products", "member", "makers"] ["group", "part", "prime"] (defScope sgreater_part) := ⟨rfl, rfl, rfl, by decide +kernel, rfl, by decide +kernel, by decide +kernel⟩
def mgreater_part : M Fl := mSeq (mAsg (mProp aG r_p_all_products (mFro 0)) (stN 3)) (mSeq (mOwn 5 (mLc [4] (mRng (mCons (mProp aG r_p_size (mFro 0)) (mNil))) (stN 4) (mAnd (mBool (m2 (fInF true) (mAny 4) (mAny 1))) (mAnd (mBool (m2 (fInF false) (mCall 3 r_power_of (mCons (mFro 3) (mCons (mFro 4) (mCons (mFro 2) (mNil))))) (mAny 1))) (mBool (m2 (fEq false) (mCall 3 r_moved_members (mCons (mFro 0) (mCons (mFro 1) (mCons (mFro 4) (mNil))))) (mAny 1))))) (mFro 4))) (mRet (mCall 2 r_closed_members (mCons (mFro 3) (mCons (m2 fCat (mFro 1) (mTup (mCons (m2 fIx (mAny 5) (mC (.int 0))) (mNil)))) (mNil))))))
def r_greater_part : List D → Option D := runD 6 mgreater_part
section
variable {P : Program} {w : World} {K : PySem.W.Frag} {mg : Str → Option Value} {base : Heap}
theorem ok_greater_part {f : Addr} {fd : FuncData} (F : Fun K "greater_part" "greater_part" sgreater_part f fd) (F_closed_members : Own P w K mg base 1 "closed_members" 2 r_closed_members) (F_moved_members : Own P w K mg base 3 "moved_members" 3 r_moved_members) (F_power_of : Own P w K mg base 1 "power_of" 3 r_power_of) (Pr_all_products : OwnProp P w K mg base 1 aG "all_products" r_p_all_products) (Pr_size : OwnProp P w K mg base 1 aG "size" r_p_size) (z_range : mg "range" = none) : FnOk P w K mg base CX0 4 f fd ["group", "part", "prime"] (spD K 3 r_greater_part) := by
  have sc := scgreater_part
  refine F.ok sc (fun vs H Q E h => spD_len h) (fun cdv A outer s H vs Q E hr h => ?_)
  refine ⟨tSeq (tAsg (tProp aG (spD K 1 r_p_all_products) [] E0 (tVar 0)) (gName 3)) (tSeq (tAsg (tLc (iRng1 (tCons (tProp aG (spD K 1 r_p_size) [] E0 (tVar 0)) (tNil))) (gName 4) (tAnd (tTest (tOp (rIn K true) (tVar 4) (tVar 1))) (tAnd (tTest (tOp (rIn K false) (tCall (spD K 3 r_power_of) [] E0 (tCons (tVar 3) (tCons (tVar 4) (tCons (tVar 2) (tNil))))) (tVar 1))) (tTest (tOp (rEqD K) (tCall (spD K 3 r_moved_members) [] E0 (tCons (tVar 0) (tCons (tVar 1) (tCons (tVar 4) (tNil))))) (tVar 1))))) (tVar 4) [4]) (gName 5)) (tRet (tCall (spD K 2 r_closed_members) [] E0 (tCons (tVar 3) (tCons (tOp (rCatA K) (tVar 1) (tTup (tCons (tOp (rIx K) (tVar 5) (tC (.int 0))) (tNil)))) (tNil)))))), pss_cons (ps_set (i := 3) sc.nd rfl (.inr rfl) (pe_prop (pv 0) Pr_all_products.c Pr_all_products.h Pr_all_products.F (hr.mono (by decide)) Pr_all_products.b .nil pass0 (by rfl))) (pss_cons (ps_setLc (i := 5) (own := [("member", 4)]) rfl sc.nd rfl rfl (sw_true rfl rfl rfl (by decide +kernel)) (pi_range1 rfl z_range (pa_cons (pe_prop (pv 0) Pr_size.c Pr_size.h Pr_size.F (hr.mono (by decide)) Pr_size.b .nil pass0 (by rfl)) (pa_nil))) (blkOk_by (by rfl)) (fun _ _ _ _ _ => pg_name (i := 4) sc.nd rfl (.inl rfl)) (fun _ _ _ _ _ => pts_one (PW.pt (pw_and (pt_cmpR op_notIn_seq (pv 4) (pv 1) (by rfl)) (pw_and (pt_cmpR op_in_seq (pe_call F_power_of.F (hr.mono (by decide)) rfl F_power_of.g F_power_of.k F_power_of.b .nil pass0 (pa_cons (pv 3) (pa_cons (pv 4) (pa_cons (pv 2) (pa_nil))))) (pv 1) (by rfl)) (pw_and1 (pt_cmpR (op_eqD (hu64 hr)) (pe_call F_moved_members.F (hr.mono (by decide)) rfl F_moved_members.g F_moved_members.k F_moved_members.b .nil pass0 (pa_cons (pv 0) (pa_cons (pv 1) (pa_cons (pv 4) (pa_nil))))) (pv 1) (nomark _))))))) (fun _ _ _ _ _ => pv 4)) (pss_one (ps_ret (pe_call F_closed_members.F (hr.mono (by decide)) rfl F_closed_members.g F_closed_members.k F_closed_members.b .nil pass0 (pa_cons (pv 3) (pa_cons (pe_op op_catA (pv 1) (pe_tup (pa_cons (pe_ix ix_seq (pv 5) (pe_int) (fun _ _ => rfl)) (pa_nil)))) (pa_nil))))))), ?_⟩
  exact body_end (m := mgreater_part) h (fun F0 H0 => sx_seq (sx_asg (ex_prop (ex_var 0)) (gx_name 3)) (sx_seq (sx_own 5 (ox_lc (wx_range1 (ab_cons ((ex_prop (ex_var 0)).b) (ab_nil)) (mCons_len (mNil_len))) (gw_name 4) (tx_and (tx_test (ex_op op_inF (bx_var 4) (bx_var 1)).b) (tx_and (tx_test (ex_op op_inF ((ex_call (ax_cons (ex_var 3) (ax_cons (ex_var 4) (ax_cons (ex_var 2) (ax_nil))))).b) (bx_var 1)).b) (tx_test (ex_op op_eqB ((ex_call (ax_cons (ex_var 0) (ax_cons (ex_var 1) (ax_cons (ex_var 4) (ax_nil))))).b) (bx_var 1)).b))) (ex_var 4))) (sx_ret (ex_call (ax_cons (ex_var 3) (ax_cons (ex_opF op_cat' (ex_var 1) (ex_tup (ax_cons (ex_ix (bx_var 5) ((ex_int 0).b)) (ax_nil)))) (ax_nil)))))))
end
abbrev sprime_part : Stmt := top 33
theorem scprime_part : FnScope ["group", "prime", "part"] ["group", "prime"] (defScope sprime_part) := ⟨rfl, rfl, rfl, by decide +kernel, rfl, by decide +kernel, by decide +kernel⟩
def mprime_part : M Fl := mSeq ((fun δ => ((mCall 1 r_need_group (mCons (mFro 0) (mNil))) δ).map fun _ => .nx δ)) (mSeq ((fun δ => ((mCall 1 r_need_prime (mCons (mFro 1) (mNil))) δ).map fun _ => .nx δ)) (mSeq (mAsg (mTup (mCons (mC (.int 0)) (mNil))) (stN 2)) (mSeq (mWhile 200 (mBool (m2 (fEq false) (m2 (fI cPos fun i j => i % j) (m2 (fI cDiv fun i j => i / j) (mProp aG r_p_size (mFro 0)) (mB (f1 fLen) (mCons (mAny 2) (mNil)))) (mAny 1)) (mC (.int 0)))) (mAsg (mCall 3 r_greater_part (mCons (mFro 0) (mCons (mFro 2) (mCons (mFro 1) (mNil))))) (stN 2))) (mRet (mFro 2)))))
def r_prime_part : List D → Option D := runD 3 mprime_part
section
variable {P : Program} {w : World} {K : PySem.W.Frag} {mg : Str → Option Value} {base : Heap}
theorem ok_prime_part {f : Addr} {fd : FuncData} (F : Fun K "prime_part" "prime_part" sprime_part f fd) (F_greater_part : Own P w K mg base 4 "greater_part" 3 r_greater_part) (F_need_group : Own P w K mg base 1 "need_group" 1 r_need_group) (F_need_prime : Own P w K mg base 3 "need_prime" 1 r_need_prime) (Pr_size : OwnProp P w K mg base 1 aG "size" r_p_size) (z_len : mg "len" = none) : FnOk P w K mg base CX0 5 f fd ["group", "prime"] (spD K 2 r_prime_part) := by
  have sc := scprime_part
  refine F.ok sc (fun vs H Q E h => spD_len h) (fun cdv A outer s H vs Q E hr h => ?_)
  refine ⟨tSeq (tDrop (tCall (spD K 1 r_need_group) [] E0 (tCons (tVar 0) (tNil)))) (tSeq (tDrop (tCall (spD K 1 r_need_prime) [] E0 (tCons (tVar 1) (tNil)))) (tSeq (tAsg (tTup (tCons (tC (.int 0)) (tNil))) (gName 2)) (tSeq (tWhile (tTest (tOp (rEqD K) (tOp (rI (fun _ j => 0 < j) fun i j => V.int (i % j)) (tOp (rI CDiv fun i j => V.int (i / j)) (tProp aG (spD K 1 r_p_size) [] E0 (tVar 0)) (tCB (rLenQ K) (tCons (tVar 2) (tNil)))) (tVar 1)) (tC (.int 0)))) (tAsg (tCall (spD K 3 r_greater_part) [] E0 (tCons (tVar 0) (tCons (tVar 2) (tCons (tVar 1) (tNil))))) (gName 2))) (tRet (tVar 2))))), pss_cons (ps_expr (pe_call F_need_group.F (hr.mono (by decide)) rfl F_need_group.g F_need_group.k F_need_group.b .nil pass0 (pa_cons (pv 0) (pa_nil)))) (pss_cons (ps_expr (pe_call F_need_prime.F (hr.mono (by decide)) rfl F_need_prime.g F_need_prime.k F_need_prime.b .nil pass0 (pa_cons (pv 1) (pa_nil)))) (pss_cons (ps_set (i := 2) sc.nd rfl (.inl rfl) (pe_tup (pa_cons (pe_int) (pa_nil)))) (pss_cons (ps_while PassesOwn.never (pt_cmpR (op_eqD (hu64 hr)) (pe_op op_mod (pe_op op_fdiv (pe_prop (pv 0) Pr_size.c Pr_size.h Pr_size.F (hr.mono (by decide)) Pr_size.b .nil pass0 (by rfl)) (pe_callB hLenQ rfl z_len (by decide +kernel) (pa_cons (pv 2) (pa_nil)))) (pv 1)) (pe_int) (nomark _)) (pss_one (ps_set (i := 2) sc.nd rfl (.inl rfl) (pe_call F_greater_part.F (hr.mono (by decide)) rfl F_greater_part.g F_greater_part.k F_greater_part.b .nil pass0 (pa_cons (pv 0) (pa_cons (pv 2) (pa_cons (pv 1) (pa_nil)))))))) (pss_one (ps_ret (pv 2)))))), ?_⟩
  exact body_end (m := mprime_part) h (fun F0 H0 => sx_seq (sx_expr (ex_call (ax_cons (ex_var 0) (ax_nil))).b) (sx_seq (sx_expr (ex_call (ax_cons (ex_var 1) (ax_nil))).b) (sx_seq (sx_asg (ex_tup (ax_cons (ex_int 0) (ax_nil))) (gx_name 2)) (sx_seq (sx_while 200 (tx_test (ex_op op_eqB ((ex_op (op_rI cPos_ok) ((ex_op (op_rI cDiv_ok) ((ex_prop (ex_var 0)).b) ((ex_cb bLenQ (ab_cons (bx_var 2) (ab_nil))).b)).b) (bx_var 1)).b) ((ex_int 0).b)).b) (sx_asg (ex_call (ax_cons (ex_var 0) (ax_cons (ex_var 2) (ax_cons (ex_var 1) (ax_nil))))) (gx_name 2))) (sx_ret (ex_var 2))))))
end
abbrev snormalizer_of : Stmt := top 36
theorem scnormalizer_of : FnScope ["group", "part", "member"] ["group", "part"] (defScope snormalizer_of) := ⟨rfl, rfl, rfl, by decide +kernel, rfl, by decide +kernel, by decide +kernel⟩
def mnormalizer_of : M Fl := mSeq ((fun δ => ((mCall 2 r_need_part (mCons (mFro 0) (mCons (mFro 1) (mNil)))) δ).map fun _ => .nx δ)) (mRet (mB (f1 fun d => (lstD d).map D.tup) (mCons (mLc [2] (mRng (mCons (mProp aG r_p_size (mFro 0)) (mNil))) (stN 2) (mBool (m2 (fEq false) (mCall 3 r_moved_members (mCons (mFro 0) (mCons (mFro 1) (mCons (mFro 2) (mNil))))) (mAny 1))) (mFro 2)) (mNil))))
def r_normalizer_of : List D → Option D := runD 3 mnormalizer_of
section
variable {P : Program} {w : World} {K : PySem.W.Frag} {mg : Str → Option Value} {base : Heap}
theorem ok_normalizer_of {f : Addr} {fd : FuncData} (F : Fun K "normalizer_of" "normalizer_of" snormalizer_of f fd) (F_moved_members : Own P w K mg base 3 "moved_members" 3 r_moved_members) (F_need_part : Own P w K mg base 6 "need_part" 2 r_need_part) (Pr_size : OwnProp P w K mg base 1 aG "size" r_p_size) (z_range : mg "range" = none) (z_tuple : mg "tuple" = none) : FnOk P w K mg base CX0 7 f fd ["group", "part"] (spD K 2 r_normalizer_of) := by
  have sc := scnormalizer_of
  refine F.ok sc (fun vs H Q E h => spD_len h) (fun cdv A outer s H vs Q E hr h => ?_)
  refine ⟨tSeq (tDrop (tCall (spD K 2 r_need_part) [] E0 (tCons (tVar 0) (tCons (tVar 1) (tNil))))) (tRet (tCB (rTupQ K) (tCons (tLc (iRng1 (tCons (tProp aG (spD K 1 r_p_size) [] E0 (tVar 0)) (tNil))) (gName 2) (tTest (tOp (rEqD K) (tCall (spD K 3 r_moved_members) [] E0 (tCons (tVar 0) (tCons (tVar 1) (tCons (tVar 2) (tNil))))) (tVar 1))) (tVar 2) [2]) (tNil)))), pss_cons (ps_expr (pe_call F_need_part.F (hr.mono (by decide)) rfl F_need_part.g F_need_part.k F_need_part.b .nil pass0 (pa_cons (pv 0) (pa_cons (pv 1) (pa_nil))))) (pss_one (ps_ret (pe_callTy hTupQ rfl z_tuple (by decide +kernel) (pa_cons (pe_lc (own := [("member", 2)]) rfl sc.nd (pi_range1 rfl z_range (pa_cons (pe_prop (pv 0) Pr_size.c Pr_size.h Pr_size.F (hr.mono (by decide)) Pr_size.b .nil pass0 (by rfl)) (pa_nil))) (blkOk_by (by rfl)) (fun _ _ _ _ _ => pg_name (i := 2) sc.nd rfl (.inl rfl)) (fun _ _ _ _ _ => pts_one (pt_cmpR (op_eqD (hu64 hr)) (pe_call F_moved_members.F (hr.mono (by decide)) rfl F_moved_members.g F_moved_members.k F_moved_members.b .nil pass0 (pa_cons (pv 0) (pa_cons (pv 1) (pa_cons (pv 2) (pa_nil))))) (pv 1) (nomark _))) (fun _ _ _ _ _ => pv 2)) (pa_nil))))), ?_⟩
  exact body_end (m := mnormalizer_of) h (fun F0 H0 => sx_seq (sx_expr (ex_call (ax_cons (ex_var 0) (ax_cons (ex_var 1) (ax_nil)))).b) (sx_ret (ex_cb bTupQ (ab_cons ((ox_lc (wx_range1 (ab_cons ((ex_prop (ex_var 0)).b) (ab_nil)) (mCons_len (mNil_len))) (gw_name 2) (tx_test (ex_op op_eqB ((ex_call (ax_cons (ex_var 0) (ax_cons (ex_var 1) (ax_cons (ex_var 2) (ax_nil))))).b) (bx_var 1)).b) (ex_var 2)).b) (ab_nil)))))
end
abbrev sgenerated_rounds : Stmt := top 29
theorem scgenerated_rounds : FnScope ["group", "member"] ["group"] (defScope sgenerated_rounds) := ⟨rfl, rfl, rfl, by decide +kernel, rfl, by decide +kernel, by decide +kernel⟩
def mgenerated_rounds : M Fl := mSeq ((fun δ => ((mCall 1 r_need_group (mCons (mFro 0) (mNil))) δ).map fun _ => .nx δ)) (mRet (mB (f1 fun d => (lstD d).map D.tup) (mCons (mSortSc [1] (mRng (mCons (mProp aG r_p_size (mFro 0)) (mNil))) (stN 1) (fun _ => some true) (mCall 2 r_closed_members (mCons (mProp aG r_p_all_products (mFro 0)) (mCons (mTup (mCons (mFro 1) (mNil))) (mNil))))) (mNil))))
def r_generated_rounds : List D → Option D := runD 2 mgenerated_rounds
section
variable {P : Program} {w : World} {K : PySem.W.Frag} {mg : Str → Option Value} {base : Heap}
theorem ok_generated_rounds {f : Addr} {fd : FuncData} (F : Fun K "generated_rounds" "generated_rounds" sgenerated_rounds f fd) (F_closed_members : Own P w K mg base 1 "closed_members" 2 r_closed_members) (F_need_group : Own P w K mg base 1 "need_group" 1 r_need_group) (Pr_all_products : OwnProp P w K mg base 1 aG "all_products" r_p_all_products) (Pr_size : OwnProp P w K mg base 1 aG "size" r_p_size) (z_range : mg "range" = none) (z_sorted : mg "sorted" = none) (z_tuple : mg "tuple" = none) : FnOk P w K mg base CX0 3 f fd ["group"] (spD K 1 r_generated_rounds) := by
  have sc := scgenerated_rounds
  refine F.ok sc (fun vs H Q E h => spD_len h) (fun cdv A outer s H vs Q E hr h => ?_)
  refine ⟨tSeq (tDrop (tCall (spD K 1 r_need_group) [] E0 (tCons (tVar 0) (tNil)))) (tRet (tCB (rTupQ K) (tCons (tCB (rSortedTS P w K) (tCons (tScT P w K (iRng1 (tCons (tProp aG (spD K 1 r_p_size) [] E0 (tVar 0)) (tNil))) (gName 1) (tYes) (tCall (spD K 2 r_closed_members) [] E0 (tCons (tProp aG (spD K 1 r_p_all_products) [] E0 (tVar 0)) (tCons (tTup (tCons (tVar 1) (tNil))) (tNil)))) [1]) tNil)) (tNil)))), pss_cons (ps_expr (pe_call F_need_group.F (hr.mono (by decide)) rfl F_need_group.g F_need_group.k F_need_group.b .nil pass0 (pa_cons (pv 0) (pa_nil)))) (pss_one (ps_ret (pe_callTy hTupQ rfl z_tuple (by decide +kernel) (pa_cons (pe_callB (cr_sortedTS rfl (hu64 hr)) rfl z_sorted (by decide +kernel) (pa_cons (pe_scT (own := [("member", 1)]) rfl sc.nd (hu2 hr) (pi_range1 rfl z_range (pa_cons (pe_prop (pv 0) Pr_size.c Pr_size.h Pr_size.F (hr.mono (by decide)) Pr_size.b .nil pass0 (by rfl)) (pa_nil))) (blkOk_by (by rfl)) (fun _ _ _ _ _ => pg_name (i := 1) sc.nd rfl (.inl rfl)) (fun _ _ _ _ _ => pts_nil) (fun _ _ _ _ _ => pe_call F_closed_members.F (hr.mono (by decide)) rfl F_closed_members.g F_closed_members.k F_closed_members.b .nil pass0 (pa_cons (pe_prop (pv 0) Pr_all_products.c Pr_all_products.h Pr_all_products.F (hr.mono (by decide)) Pr_all_products.b .nil pass0 (by rfl)) (pa_cons (pe_tup (pa_cons (pv 1) (pa_nil))) (pa_nil))))) pa_nil)) (pa_nil))))), ?_⟩
  exact body_end (m := mgenerated_rounds) h (fun F0 H0 => sx_seq (sx_expr (ex_call (ax_cons (ex_var 0) (ax_nil))).b) (sx_ret (ex_cb bTupQ (ab_cons ((ox_sortSc (wx_range1 (ab_cons ((ex_prop (ex_var 0)).b) (ab_nil)) (mCons_len (mNil_len))) (gw_name 1) (tx_yes) (ex_call (ax_cons (ex_prop (ex_var 0)) (ax_cons (ex_tup (ax_cons (ex_var 1) (ax_nil))) (ax_nil))))).b) (ab_nil)))))
end
abbrev sis_commuting : Stmt := top 35
theorem scis_commuting : FnScope ["group", "part", "products", "one", "other"] ["group", "part"] (defScope sis_commuting) := ⟨rfl, rfl, rfl, by decide +kernel, rfl, by decide +kernel, by decide +kernel⟩
def mis_commuting : M Fl := mSeq ((fun δ => ((mCall 2 r_need_part (mCons (mFro 0) (mCons (mFro 1) (mNil)))) δ).map fun _ => .nx δ)) (mSeq (mAsg (mProp aG r_p_all_products (mFro 0)) (stN 2)) (mRet (mB (f1 fAll) (mCons (mLc2 [3, 4] (mItT (mFro 1)) (stN 3) (fun _ => some true) [4] (mItT (mFro 1)) (stN 4) (fun _ => some true) (m2 (fEq false) (m2 fIx (m2 fIx (mAny 2) (mAny 3)) (mAny 4)) (m2 fIx (m2 fIx (mAny 2) (mAny 4)) (mAny 3)))) (mNil)))))
def r_is_commuting : List D → Option D := runD 5 mis_commuting
section
variable {P : Program} {w : World} {K : PySem.W.Frag} {mg : Str → Option Value} {base : Heap}
theorem ok_is_commuting {f : Addr} {fd : FuncData} (F : Fun K "is_commuting" "is_commuting" sis_commuting f fd) (F_need_part : Own P w K mg base 6 "need_part" 2 r_need_part) (Pr_all_products : OwnProp P w K mg base 1 aG "all_products" r_p_all_products) (z_all : mg "all" = none) : FnOk P w K mg base CX0 7 f fd ["group", "part"] (spD K 2 r_is_commuting) := by
  have sc := scis_commuting
  refine F.ok sc (fun vs H Q E h => spD_len h) (fun cdv A outer s H vs Q E hr h => ?_)
  refine ⟨tSeq (tDrop (tCall (spD K 2 r_need_part) [] E0 (tCons (tVar 0) (tCons (tVar 1) (tNil))))) (tSeq (tAsg (tProp aG (spD K 1 r_p_all_products) [] E0 (tVar 0)) (gName 2)) (tRet (tCB (rAll K) (tCons (tLc2 (iTup K (tVar 1)) (gName 3) (tYes) (iTup K (tVar 1)) (gName 4) (tYes) (tOp (rEqD K) (tOp (rIx K) (tOp (rIx K) (tVar 2) (tVar 3)) (tVar 4)) (tOp (rIx K) (tOp (rIx K) (tVar 2) (tVar 4)) (tVar 3))) [3, 4] [4]) (tNil))))), pss_cons (ps_expr (pe_call F_need_part.F (hr.mono (by decide)) rfl F_need_part.g F_need_part.k F_need_part.b .nil pass0 (pa_cons (pv 0) (pa_cons (pv 1) (pa_nil))))) (pss_cons (ps_set (i := 2) sc.nd rfl (.inr rfl) (pe_prop (pv 0) Pr_all_products.c Pr_all_products.h Pr_all_products.F (hr.mono (by decide)) Pr_all_products.b .nil pass0 (by rfl))) (pss_one (ps_ret (pe_callB (cr_all rfl) rfl z_all (by decide +kernel) (pa_cons (pe_lc2 (own := [("one", 3), ("other", 4)]) (vs1 := [4]) rfl sc.nd (pi_tup (pv 1)) (blkOk_by (by rfl)) (by simp) (fun _ _ _ _ _ => pg_name (i := 3) sc.nd rfl (.inl rfl)) (fun _ _ _ _ _ => pts_nil) (fun _ _ _ _ _ => pi_tup (pv 1)) (fun _ _ _ _ _ => pg_name (i := 4) sc.nd rfl (.inl rfl)) (fun _ _ _ _ _ => pts_nil) (fun _ _ _ _ _ => pe_cmpR (op_eqD (hu64 hr)) (pe_ix ix_seq (pe_ix ix_seq (pv 2) (pv 3) (fun _ _ => rfl)) (pv 4) (fun _ _ => rfl)) (pe_ix ix_seq (pe_ix ix_seq (pv 2) (pv 4) (fun _ _ => rfl)) (pv 3) (fun _ _ => rfl)) (nomark _))) (pa_nil)))))), ?_⟩
  exact body_end (m := mis_commuting) h (fun F0 H0 => sx_seq (sx_expr (ex_call (ax_cons (ex_var 0) (ax_cons (ex_var 1) (ax_nil)))).b) (sx_seq (sx_asg (ex_prop (ex_var 0)) (gx_name 2)) (sx_ret (ex_cb cb_all (ab_cons ((ox_lc2 (wx_tup (ex_var 1)) (gw_in 3 [3, 4]) (keeps_stN 3) (tx_yes) (wx_tup (ex_var 1)) (gw_name 4) (keeps_stN 4) (tx_yes) (ex_op op_eqB ((ex_ix ((ex_ix (bx_var 2) (bx_var 3)).b) (bx_var 4)).b) ((ex_ix ((ex_ix (bx_var 2) (bx_var 4)).b) (bx_var 3)).b))).b) (ab_nil))))))
end
abbrev scentralizer_of : Stmt := top 37
theorem sccentralizer_of : FnScope ["group", "part", "products", "member", "inner"] ["group", "part"] (defScope scentralizer_of) := ⟨rfl, rfl, rfl, by decide +kernel, rfl, by decide +kernel, by decide +kernel⟩
def mcentralizer_of : M Fl := mSeq ((fun δ => ((mCall 2 r_need_part (mCons (mFro 0) (mCons (mFro 1) (mNil)))) δ).map fun _ => .nx δ)) (mSeq (mAsg (mProp aG r_p_all_products (mFro 0)) (stN 2)) (mRet (mB (f1 fun d => (lstD d).map D.tup) (mCons (mLc [3] (mRng (mCons (mProp aG r_p_size (mFro 0)) (mNil))) (stN 3) (mBool (mB (f1 fAll) (mCons (mLc [4] (mItT (mFro 1)) (stN 4) (fun _ => some true) (m2 (fEq false) (m2 fIx (m2 fIx (mAny 2) (mAny 3)) (mAny 4)) (m2 fIx (m2 fIx (mAny 2) (mAny 4)) (mAny 3)))) (mNil)))) (mFro 3)) (mNil)))))
def r_centralizer_of : List D → Option D := runD 5 mcentralizer_of
section
variable {P : Program} {w : World} {K : PySem.W.Frag} {mg : Str → Option Value} {base : Heap}
theorem ok_centralizer_of {f : Addr} {fd : FuncData} (F : Fun K "centralizer_of" "centralizer_of" scentralizer_of f fd) (F_need_part : Own P w K mg base 6 "need_part" 2 r_need_part) (Pr_all_products : OwnProp P w K mg base 1 aG "all_products" r_p_all_products) (Pr_size : OwnProp P w K mg base 1 aG "size" r_p_size) (z_all : mg "all" = none) (z_range : mg "range" = none) (z_tuple : mg "tuple" = none) : FnOk P w K mg base CX0 7 f fd ["group", "part"] (spD K 2 r_centralizer_of) := by
  have sc := sccentralizer_of
  refine F.ok sc (fun vs H Q E h => spD_len h) (fun cdv A outer s H vs Q E hr h => ?_)
  refine ⟨tSeq (tDrop (tCall (spD K 2 r_need_part) [] E0 (tCons (tVar 0) (tCons (tVar 1) (tNil))))) (tSeq (tAsg (tProp aG (spD K 1 r_p_all_products) [] E0 (tVar 0)) (gName 2)) (tRet (tCB (rTupQ K) (tCons (tLc (iRng1 (tCons (tProp aG (spD K 1 r_p_size) [] E0 (tVar 0)) (tNil))) (gName 3) (tB (tCB (rAll K) (tCons (tLc (iTup K (tVar 1)) (gName 4) (tYes) (tOp (rEqD K) (tOp (rIx K) (tOp (rIx K) (tVar 2) (tVar 3)) (tVar 4)) (tOp (rIx K) (tOp (rIx K) (tVar 2) (tVar 4)) (tVar 3))) [4]) (tNil)))) (tVar 3) [3]) (tNil))))), pss_cons (ps_expr (pe_call F_need_part.F (hr.mono (by decide)) rfl F_need_part.g F_need_part.k F_need_part.b .nil pass0 (pa_cons (pv 0) (pa_cons (pv 1) (pa_nil))))) (pss_cons (ps_set (i := 2) sc.nd rfl (.inr rfl) (pe_prop (pv 0) Pr_all_products.c Pr_all_products.h Pr_all_products.F (hr.mono (by decide)) Pr_all_products.b .nil pass0 (by rfl))) (pss_one (ps_ret (pe_callTy hTupQ rfl z_tuple (by decide +kernel) (pa_cons (pe_lc (own := [("member", 3)]) rfl sc.nd (pi_range1 rfl z_range (pa_cons (pe_prop (pv 0) Pr_size.c Pr_size.h Pr_size.F (hr.mono (by decide)) Pr_size.b .nil pass0 (by rfl)) (pa_nil))) (blkOk_by (by rfl)) (fun _ _ _ _ _ => pg_name (i := 3) sc.nd rfl (.inr rfl)) (fun _ _ _ _ _ => pts_one (pt_val (pe_callB (cr_all rfl) rfl z_all (by decide +kernel) (pa_cons (pe_lc (own := [("inner", 4)]) rfl sc.nd (pi_tup (pv 1)) (blkOk_by (by rfl)) (fun _ _ _ _ _ => pg_name (i := 4) sc.nd rfl (.inl rfl)) (fun _ _ _ _ _ => pts_nil) (fun _ _ _ _ _ => pe_cmpR (op_eqD (hu64 hr)) (pe_ix ix_seq (pe_ix ix_seq (pv 2) (pv 3) (fun _ _ => rfl)) (pv 4) (fun _ _ => rfl)) (pe_ix ix_seq (pe_ix ix_seq (pv 2) (pv 4) (fun _ _ => rfl)) (pv 3) (fun _ _ => rfl)) (nomark _))) (pa_nil))) (fun _ => rfl))) (fun _ _ _ _ _ => pv 3)) (pa_nil)))))), ?_⟩
  exact body_end (m := mcentralizer_of) h (fun F0 H0 => sx_seq (sx_expr (ex_call (ax_cons (ex_var 0) (ax_cons (ex_var 1) (ax_nil)))).b) (sx_seq (sx_asg (ex_prop (ex_var 0)) (gx_name 2)) (sx_ret (ex_cb bTupQ (ab_cons ((ox_lc (wx_range1 (ab_cons ((ex_prop (ex_var 0)).b) (ab_nil)) (mCons_len (mNil_len))) (gw_name 3) (tx_b ((ex_cb cb_all (ab_cons ((ox_lc (wx_tup (ex_var 1)) (gw_name 4) (tx_yes) (ex_op op_eqB ((ex_ix ((ex_ix (bx_var 2) (bx_var 3)).b) (bx_var 4)).b) ((ex_ix ((ex_ix (bx_var 2) (bx_var 4)).b) (bx_var 3)).b))).b) (ab_nil))).b)) (ex_var 3)).b) (ab_nil))))))
end
abbrev slaw_group : Stmt := top 44
theorem sclaw_group : FnScope ["_law_moves", "_law_every", "_law_at", "_law_one", "_law_place", "_law_other", "_law_table", "_law_line", "_law_back"] ["_law_moves"] (defScope slaw_group) := ⟨rfl, rfl, rfl, by decide +kernel, rfl, by decide +kernel, by decide +kernel⟩
def mlaw_group : M Fl := mSeq (mAsg (mCall 1 r_law_made (mCons (mFro 0) (mNil))) (stN 1)) (mSeq (mAsg (mB (f1 fDictT) (mCons (mLc [2, 3] (mItE (mFro 1)) (stTup 2 (stCons (stN 2) (stCons (stN 3) (stNil)))) (fun _ => some true) (mTup (mCons (mFro 3) (mCons (mFro 2) (mNil))))) (mNil))) (stN 4)) (mSeq (mAsg (mLc [3] (mItL (mFro 1)) (stN 3) (fun _ => some true) (mLc [5] (mItL (mFro 1)) (stN 5) (fun _ => some true) (m2 fGetI (mAny 4) (mCall 2 r_law_behind (mCons (mFro 3) (mCons (mFro 5) (mNil))))))) (stN 6)) (mSeq (mAsg (mLc [7] (mItL (mFro 6)) (stN 7) (fun _ => some true) (m2 fLIdx (mFro 7) (mC (.int 0)))) (stN 8)) (mRet (mDisp ((mC (.str "moves"), mB (f1 fTupT) (mCons (mAny 0) (mNil))) :: (mC (.str "every"), mFro 1) :: (mC (.str "size"), mB (f1 fLen) (mCons (mAny 1) (mNil))) :: (mC (.str "table"), mFro 6) :: (mC (.str "back"), mFro 8) :: []))))))
def r_law_group : List D → Option D := runD 9 mlaw_group
section
variable {P : Program} {w : World} {K : PySem.W.Frag} {mg : Str → Option Value} {base : Heap}
theorem ok_law_group {f : Addr} {fd : FuncData} (F : Fun K "_law_group" "_law_group" slaw_group f fd) (F__law_behind : Own P w K mg base 1 "_law_behind" 2 r_law_behind) (F__law_made : Own P w K mg base 2 "_law_made" 1 r_law_made) (z_dict : mg "dict" = none) (z_enumerate : mg "enumerate" = none) (z_len : mg "len" = none) (z_tuple : mg "tuple" = none) : FnOk P w K mg base CX0 3 f fd ["_law_moves"] (spD K 1 r_law_group) := by
  have sc := sclaw_group
  refine F.ok sc (fun vs H Q E h => spD_len h) (fun cdv A outer s H vs Q E hr h => ?_)
  refine ⟨tSeq (tAsg (tCall (spD K 1 r_law_made) [] E0 (tCons (tVar 0) (tNil))) (gName 1)) (tSeq (tAsg (tCB (rDictT K) (tCons (tLc (iEnum K (tCons (tVar 1) tNil)) (gTup K 2 (gCons (gName 2) (gCons (gName 3) (gNil)))) (tYes) (tTup (tCons (tVar 3) (tCons (tVar 2) (tNil)))) [2, 3]) (tNil))) (gName 4)) (tSeq (tAsg (tLc (iList K (tVar 1)) (gName 3) (tYes) (tLc (iList K (tVar 1)) (gName 5) (tYes) (tDGet (tVar 4) (tCall (spD K 2 r_law_behind) [] E0 (tCons (tVar 3) (tCons (tVar 5) (tNil))))) [5]) [3]) (gName 6)) (tSeq (tAsg (tLc (iList K (tVar 6)) (gName 7) (tYes) (tBM K "list" (rIndex K) (tVar 7) (tCons (tC (.int 0)) tNil)) [7]) (gName 8)) (tRet (tDisp ((tC (.str "moves"), tCB (rTupQ K) (tCons (tVar 0) (tNil))) :: (tC (.str "every"), tVar 1) :: (tC (.str "size"), tCB (rLenQ K) (tCons (tVar 1) (tNil))) :: (tC (.str "table"), tVar 6) :: (tC (.str "back"), tVar 8) :: [])))))), pss_cons (ps_set (i := 1) sc.nd rfl (.inr rfl) (pe_call F__law_made.F (hr.mono (by decide)) rfl F__law_made.g F__law_made.k F__law_made.b .nil pass0 (pa_cons (pv 0) (pa_nil)))) (pss_cons (ps_set (i := 4) sc.nd rfl (.inr rfl) (pe_callTy (call_dictT rfl (hu64 hr)) rfl z_dict (by decide +kernel) (pa_cons (pe_lc (own := [("_law_at", 2), ("_law_one", 3)]) rfl sc.nd (pi_enum rfl z_enumerate (pa_cons (pv 1) pa_nil)) (blkOk_by (by rfl)) (fun _ _ _ _ _ => pg_tup rfl (pgs_cons (pg_name (i := 2) sc.nd rfl (.inl rfl)) (pgs_cons (pg_name (i := 3) sc.nd rfl (.inl rfl)) (pgs_nil)))) (fun _ _ _ _ _ => pts_nil) (fun _ _ _ _ _ => pe_tup (pa_cons (pv 3) (pa_cons (pv 2) (pa_nil))))) (pa_nil)))) (pss_cons (ps_setLc (i := 6) (own := [("_law_one", 3)]) rfl sc.nd rfl rfl (sw_true rfl rfl rfl (by decide +kernel)) (pi_list (pv 1)) (blkOk_by (by rfl)) (fun _ _ _ _ _ => pg_name (i := 3) sc.nd rfl (.inr rfl)) (fun _ _ _ _ _ => pts_nil) (fun _ _ _ _ _ => pe_lc (own := [("_law_other", 5)]) rfl sc.nd (pi_list (pv 1)) (blkOk_by (by rfl)) (fun _ _ _ _ _ => pg_name (i := 5) sc.nd rfl (.inl rfl)) (fun _ _ _ _ _ => pts_nil) (fun _ _ _ _ _ => pe_dget (hu1 hr) (pv 4) (pe_call F__law_behind.F (hr.mono (by decide)) rfl F__law_behind.g F__law_behind.k F__law_behind.b .nil pass0 (pa_cons (pv 3) (pa_cons (pv 5) (pa_nil)))) (fun _ _ => rfl)))) (pss_cons (ps_setLc (i := 8) (own := [("_law_line", 7)]) rfl sc.nd rfl rfl (sw_true rfl rfl rfl (by decide +kernel)) (pi_list (pv 6)) (blkOk_by (by rfl)) (fun _ _ _ _ _ => pg_name (i := 7) sc.nd rfl (.inl rfl)) (fun _ _ _ _ _ => pts_nil) (fun _ _ _ _ _ => pe_bm PySem.F.plainAttrs_list PySem.F.slot_list_index PySem.F.type_list_index mt_index (pv 7) (pa_cons (pe_int) pa_nil))) (pss_one (ps_ret (pe_disp (pps_cons (pe_str) (pe_callTy hTupQ rfl z_tuple (by decide +kernel) (pa_cons (pv 0) (pa_nil))) (pps_cons (pe_str) (pv 1) (pps_cons (pe_str) (pe_callB hLenQ rfl z_len (by decide +kernel) (pa_cons (pv 1) (pa_nil))) (pps_cons (pe_str) (pv 6) (pps_cons (pe_str) (pv 8) (pps_nil)))))) rfl rfl (by simp) (by decide))))))), ?_⟩
  exact body_end (m := mlaw_group) h (fun F0 H0 => sx_seq (sx_asg (ex_call (ax_cons (ex_var 0) (ax_nil))) (gx_name 1)) (sx_seq (sx_asg ((ox_cb co_dictT (ab_cons ((ox_lc (wx_enum (ex_var 1)) (gw_tup2 2 3) (tx_yes) (ex_tup (ax_cons (ex_var 3) (ax_cons (ex_var 2) (ax_nil))))).b) (ab_nil))).x) (gx_name 4)) (sx_seq (sx_asg ((ox_lc (wx_list (ex_var 1)) (gw_name 3) (tx_yes) ((ox_lc (wx_list (ex_var 1)) (gw_name 5) (tx_yes) (ex_dget (bx_var 4) ((ex_call (ax_cons (ex_var 3) (ax_cons (ex_var 5) (ax_nil)))).b))).x)).x) (gx_name 6)) (sx_seq (sx_asg ((ox_lc (wx_list (ex_var 6)) (gw_name 7) (tx_yes) (ex_lidx (ex_var 7) (ex_int 0))).x) (gx_name 8)) (sx_ret ((ox_disp (.cons (ex_str "moves") (ex_cb bTupT (ab_cons (bx_var 0) (ab_nil))) (.cons (ex_str "every") (ex_var 1) (.cons (ex_str "size") (ex_cb bLenQ (ab_cons (bx_var 1) (ab_nil))) (.cons (ex_str "table") (ex_var 6) (.cons (ex_str "back") (ex_var 8) (.nil))))))).x))))))
end
abbrev slaw_ready_moves : Stmt := top 46
theorem sclaw_ready_moves : FnScope ["_law_size", "_law_found"] [] (defScope slaw_ready_moves) := ⟨rfl, rfl, rfl, by decide +kernel, rfl, by decide +kernel, by decide +kernel⟩
def mlaw_ready_moves : M Fl := mSeq (mOwn 1 (mB (f1 fDictK) (mCons (mLc [0] (mRng (mCons (mC (.int 1)) (mCons (mC (.int 9)) (mNil)))) (stN 0) (fun _ => some true) (mTup (mCons (m2 (fCatS) (mC (.str "c")) (mB (f1 fStr) (mCons (mAny 0) (mNil)))) (mCons (mCall 1 r_law_round_moves (mCons (mFro 0) (mNil))) (mNil))))) (mNil)))) (mSeq (mPut 1 (mC (.str "v4")) (mTup (mCons (mTup (mCons (mC (.int 1)) (mCons (mC (.int 0)) (mCons (mC (.int 2)) (mCons (mC (.int 3)) (mNil)))))) (mCons (mTup (mCons (mC (.int 0)) (mCons (mC (.int 1)) (mCons (mC (.int 3)) (mCons (mC (.int 2)) (mNil)))))) (mNil))))) (mSeq (mPut 1 (mC (.str "c2c4")) (mTup (mCons (mTup (mCons (mC (.int 1)) (mCons (mC (.int 0)) (mCons (mC (.int 2)) (mCons (mC (.int 3)) (mCons (mC (.int 4)) (mCons (mC (.int 5)) (mNil)))))))) (mCons (mTup (mCons (mC (.int 0)) (mCons (mC (.int 1)) (mCons (mC (.int 3)) (mCons (mC (.int 4)) (mCons (mC (.int 5)) (mCons (mC (.int 2)) (mNil)))))))) (mNil))))) (mSeq (mPut 1 (mC (.str "c3c3")) (mTup (mCons (mTup (mCons (mC (.int 1)) (mCons (mC (.int 2)) (mCons (mC (.int 0)) (mCons (mC (.int 3)) (mCons (mC (.int 4)) (mCons (mC (.int 5)) (mNil)))))))) (mCons (mTup (mCons (mC (.int 0)) (mCons (mC (.int 1)) (mCons (mC (.int 2)) (mCons (mC (.int 4)) (mCons (mC (.int 5)) (mCons (mC (.int 3)) (mNil)))))))) (mNil))))) (mSeq (mPut 1 (mC (.str "s3")) (mTup (mCons (mTup (mCons (mC (.int 1)) (mCons (mC (.int 0)) (mCons (mC (.int 2)) (mNil))))) (mCons (mTup (mCons (mC (.int 1)) (mCons (mC (.int 2)) (mCons (mC (.int 0)) (mNil))))) (mNil))))) (mSeq (mPut 1 (mC (.str "d4")) (mTup (mCons (mTup (mCons (mC (.int 1)) (mCons (mC (.int 2)) (mCons (mC (.int 3)) (mCons (mC (.int 0)) (mNil)))))) (mCons (mTup (mCons (mC (.int 0)) (mCons (mC (.int 3)) (mCons (mC (.int 2)) (mCons (mC (.int 1)) (mNil)))))) (mNil))))) (mSeq (mPut 1 (mC (.str "q8")) (mTup (mCons (mTup (mCons (mC (.int 1)) (mCons (mC (.int 4)) (mCons (mC (.int 3)) (mCons (mC (.int 6)) (mCons (mC (.int 5)) (mCons (mC (.int 0)) (mCons (mC (.int 7)) (mCons (mC (.int 2)) (mNil)))))))))) (mCons (mTup (mCons (mC (.int 2)) (mCons (mC (.int 7)) (mCons (mC (.int 4)) (mCons (mC (.int 1)) (mCons (mC (.int 6)) (mCons (mC (.int 3)) (mCons (mC (.int 0)) (mCons (mC (.int 5)) (mNil)))))))))) (mNil))))) (mSeq (mPut 1 (mC (.str "a4")) (mTup (mCons (mTup (mCons (mC (.int 1)) (mCons (mC (.int 2)) (mCons (mC (.int 0)) (mCons (mC (.int 3)) (mNil)))))) (mCons (mTup (mCons (mC (.int 1)) (mCons (mC (.int 0)) (mCons (mC (.int 3)) (mCons (mC (.int 2)) (mNil)))))) (mNil))))) (mSeq (mPut 1 (mC (.str "d5")) (mTup (mCons (mTup (mCons (mC (.int 1)) (mCons (mC (.int 2)) (mCons (mC (.int 3)) (mCons (mC (.int 4)) (mCons (mC (.int 0)) (mNil))))))) (mCons (mTup (mCons (mC (.int 0)) (mCons (mC (.int 4)) (mCons (mC (.int 3)) (mCons (mC (.int 2)) (mCons (mC (.int 1)) (mNil))))))) (mNil))))) (mSeq (mPut 1 (mC (.str "d6")) (mTup (mCons (mTup (mCons (mC (.int 1)) (mCons (mC (.int 2)) (mCons (mC (.int 3)) (mCons (mC (.int 4)) (mCons (mC (.int 5)) (mCons (mC (.int 0)) (mNil)))))))) (mCons (mTup (mCons (mC (.int 0)) (mCons (mC (.int 5)) (mCons (mC (.int 4)) (mCons (mC (.int 3)) (mCons (mC (.int 2)) (mCons (mC (.int 1)) (mNil)))))))) (mNil))))) ((fun δ => mRet (mFro 1) (frz 1 δ))))))))))))
def r_law_ready_moves : List D → Option D := runD 2 mlaw_ready_moves
section
variable {P : Program} {w : World} {K : PySem.W.Frag} {mg : Str → Option Value} {base : Heap}
theorem ok_law_ready_moves {f : Addr} {fd : FuncData} (F : Fun K "_law_ready_moves" "_law_ready_moves" slaw_ready_moves f fd) (F__law_round_moves : Own P w K mg base 1 "_law_round_moves" 1 r_law_round_moves) (z_dict : mg "dict" = none) (z_range : mg "range" = none) (z_str : mg "str" = none) : FnOk P w K mg base CX0 2 f fd [] (spD K 0 r_law_ready_moves) := by
  have sc := sclaw_ready_moves
  refine F.ok sc (fun vs H Q E h => spD_len h) (fun cdv A outer s H vs Q E hr h => ?_)
  refine ⟨tSeq (tAsg (tCB (rDictK K) (tCons (tLc (iRng2 (tCons (tC (.int 1)) (tCons (tC (.int 9)) (tNil)))) (gName 0) (tYes) (tTup (tCons (tOp (rCatS) (tC (.str "c")) (tCB (rStrI) (tCons (tVar 0) (tNil)))) (tCons (tCall (spD K 1 r_law_round_moves) [] E0 (tCons (tVar 0) (tNil))) (tNil)))) [0]) (tNil))) (gName 1)) (tSeq (sDPut (tVar 1) (tC (.str "v4")) (tTup (tCons (tTup (tCons (tC (.int 1)) (tCons (tC (.int 0)) (tCons (tC (.int 2)) (tCons (tC (.int 3)) (tNil)))))) (tCons (tTup (tCons (tC (.int 0)) (tCons (tC (.int 1)) (tCons (tC (.int 3)) (tCons (tC (.int 2)) (tNil)))))) (tNil))))) (tSeq (sDPut (tVar 1) (tC (.str "c2c4")) (tTup (tCons (tTup (tCons (tC (.int 1)) (tCons (tC (.int 0)) (tCons (tC (.int 2)) (tCons (tC (.int 3)) (tCons (tC (.int 4)) (tCons (tC (.int 5)) (tNil)))))))) (tCons (tTup (tCons (tC (.int 0)) (tCons (tC (.int 1)) (tCons (tC (.int 3)) (tCons (tC (.int 4)) (tCons (tC (.int 5)) (tCons (tC (.int 2)) (tNil)))))))) (tNil))))) (tSeq (sDPut (tVar 1) (tC (.str "c3c3")) (tTup (tCons (tTup (tCons (tC (.int 1)) (tCons (tC (.int 2)) (tCons (tC (.int 0)) (tCons (tC (.int 3)) (tCons (tC (.int 4)) (tCons (tC (.int 5)) (tNil)))))))) (tCons (tTup (tCons (tC (.int 0)) (tCons (tC (.int 1)) (tCons (tC (.int 2)) (tCons (tC (.int 4)) (tCons (tC (.int 5)) (tCons (tC (.int 3)) (tNil)))))))) (tNil))))) (tSeq (sDPut (tVar 1) (tC (.str "s3")) (tTup (tCons (tTup (tCons (tC (.int 1)) (tCons (tC (.int 0)) (tCons (tC (.int 2)) (tNil))))) (tCons (tTup (tCons (tC (.int 1)) (tCons (tC (.int 2)) (tCons (tC (.int 0)) (tNil))))) (tNil))))) (tSeq (sDPut (tVar 1) (tC (.str "d4")) (tTup (tCons (tTup (tCons (tC (.int 1)) (tCons (tC (.int 2)) (tCons (tC (.int 3)) (tCons (tC (.int 0)) (tNil)))))) (tCons (tTup (tCons (tC (.int 0)) (tCons (tC (.int 3)) (tCons (tC (.int 2)) (tCons (tC (.int 1)) (tNil)))))) (tNil))))) (tSeq (sDPut (tVar 1) (tC (.str "q8")) (tTup (tCons (tTup (tCons (tC (.int 1)) (tCons (tC (.int 4)) (tCons (tC (.int 3)) (tCons (tC (.int 6)) (tCons (tC (.int 5)) (tCons (tC (.int 0)) (tCons (tC (.int 7)) (tCons (tC (.int 2)) (tNil)))))))))) (tCons (tTup (tCons (tC (.int 2)) (tCons (tC (.int 7)) (tCons (tC (.int 4)) (tCons (tC (.int 1)) (tCons (tC (.int 6)) (tCons (tC (.int 3)) (tCons (tC (.int 0)) (tCons (tC (.int 5)) (tNil)))))))))) (tNil))))) (tSeq (sDPut (tVar 1) (tC (.str "a4")) (tTup (tCons (tTup (tCons (tC (.int 1)) (tCons (tC (.int 2)) (tCons (tC (.int 0)) (tCons (tC (.int 3)) (tNil)))))) (tCons (tTup (tCons (tC (.int 1)) (tCons (tC (.int 0)) (tCons (tC (.int 3)) (tCons (tC (.int 2)) (tNil)))))) (tNil))))) (tSeq (sDPut (tVar 1) (tC (.str "d5")) (tTup (tCons (tTup (tCons (tC (.int 1)) (tCons (tC (.int 2)) (tCons (tC (.int 3)) (tCons (tC (.int 4)) (tCons (tC (.int 0)) (tNil))))))) (tCons (tTup (tCons (tC (.int 0)) (tCons (tC (.int 4)) (tCons (tC (.int 3)) (tCons (tC (.int 2)) (tCons (tC (.int 1)) (tNil))))))) (tNil))))) (tSeq (sDPut (tVar 1) (tC (.str "d6")) (tTup (tCons (tTup (tCons (tC (.int 1)) (tCons (tC (.int 2)) (tCons (tC (.int 3)) (tCons (tC (.int 4)) (tCons (tC (.int 5)) (tCons (tC (.int 0)) (tNil)))))))) (tCons (tTup (tCons (tC (.int 0)) (tCons (tC (.int 5)) (tCons (tC (.int 4)) (tCons (tC (.int 3)) (tCons (tC (.int 2)) (tCons (tC (.int 1)) (tNil)))))))) (tNil))))) (tRet (tVar 1))))))))))), pss_cons (ps_set (i := 1) sc.nd rfl (.inl rfl) (pe_callTy (hDictK rfl) rfl z_dict (by decide +kernel) (pa_cons (pe_lc (own := [("_law_size", 0)]) rfl sc.nd (pi_range2 rfl z_range (pa_cons (pe_int) (pa_cons (pe_int) (pa_nil)))) (blkOk_by (by rfl)) (fun _ _ _ _ _ => pg_name (i := 0) sc.nd rfl (.inl rfl)) (fun _ _ _ _ _ => pts_nil) (fun _ _ _ _ _ => pe_tup (pa_cons (pe_op hCatS (pe_str) (pe_callTy hStrI rfl z_str (by decide +kernel) (pa_cons (pv 0) (pa_nil)))) (pa_cons (pe_call F__law_round_moves.F (hr.mono (by decide)) rfl F__law_round_moves.g F__law_round_moves.k F__law_round_moves.b .nil pass0 (pa_cons (pv 0) (pa_nil))) (pa_nil))))) (pa_nil)))) (pss_cons (ps_dput (hu1 hr) (pv 1) (pe_str) (pe_tup (pa_cons (pe_tup (pa_cons (pe_int) (pa_cons (pe_int) (pa_cons (pe_int) (pa_cons (pe_int) (pa_nil)))))) (pa_cons (pe_tup (pa_cons (pe_int) (pa_cons (pe_int) (pa_cons (pe_int) (pa_cons (pe_int) (pa_nil)))))) (pa_nil)))) rfl) (pss_cons (ps_dput (hu1 hr) (pv 1) (pe_str) (pe_tup (pa_cons (pe_tup (pa_cons (pe_int) (pa_cons (pe_int) (pa_cons (pe_int) (pa_cons (pe_int) (pa_cons (pe_int) (pa_cons (pe_int) (pa_nil)))))))) (pa_cons (pe_tup (pa_cons (pe_int) (pa_cons (pe_int) (pa_cons (pe_int) (pa_cons (pe_int) (pa_cons (pe_int) (pa_cons (pe_int) (pa_nil)))))))) (pa_nil)))) rfl) (pss_cons (ps_dput (hu1 hr) (pv 1) (pe_str) (pe_tup (pa_cons (pe_tup (pa_cons (pe_int) (pa_cons (pe_int) (pa_cons (pe_int) (pa_cons (pe_int) (pa_cons (pe_int) (pa_cons (pe_int) (pa_nil)))))))) (pa_cons (pe_tup (pa_cons (pe_int) (pa_cons (pe_int) (pa_cons (pe_int) (pa_cons (pe_int) (pa_cons (pe_int) (pa_cons (pe_int) (pa_nil)))))))) (pa_nil)))) rfl) (pss_cons (ps_dput (hu1 hr) (pv 1) (pe_str) (pe_tup (pa_cons (pe_tup (pa_cons (pe_int) (pa_cons (pe_int) (pa_cons (pe_int) (pa_nil))))) (pa_cons (pe_tup (pa_cons (pe_int) (pa_cons (pe_int) (pa_cons (pe_int) (pa_nil))))) (pa_nil)))) rfl) (pss_cons (ps_dput (hu1 hr) (pv 1) (pe_str) (pe_tup (pa_cons (pe_tup (pa_cons (pe_int) (pa_cons (pe_int) (pa_cons (pe_int) (pa_cons (pe_int) (pa_nil)))))) (pa_cons (pe_tup (pa_cons (pe_int) (pa_cons (pe_int) (pa_cons (pe_int) (pa_cons (pe_int) (pa_nil)))))) (pa_nil)))) rfl) (pss_cons (ps_dput (hu1 hr) (pv 1) (pe_str) (pe_tup (pa_cons (pe_tup (pa_cons (pe_int) (pa_cons (pe_int) (pa_cons (pe_int) (pa_cons (pe_int) (pa_cons (pe_int) (pa_cons (pe_int) (pa_cons (pe_int) (pa_cons (pe_int) (pa_nil)))))))))) (pa_cons (pe_tup (pa_cons (pe_int) (pa_cons (pe_int) (pa_cons (pe_int) (pa_cons (pe_int) (pa_cons (pe_int) (pa_cons (pe_int) (pa_cons (pe_int) (pa_cons (pe_int) (pa_nil)))))))))) (pa_nil)))) rfl) (pss_cons (ps_dput (hu1 hr) (pv 1) (pe_str) (pe_tup (pa_cons (pe_tup (pa_cons (pe_int) (pa_cons (pe_int) (pa_cons (pe_int) (pa_cons (pe_int) (pa_nil)))))) (pa_cons (pe_tup (pa_cons (pe_int) (pa_cons (pe_int) (pa_cons (pe_int) (pa_cons (pe_int) (pa_nil)))))) (pa_nil)))) rfl) (pss_cons (ps_dput (hu1 hr) (pv 1) (pe_str) (pe_tup (pa_cons (pe_tup (pa_cons (pe_int) (pa_cons (pe_int) (pa_cons (pe_int) (pa_cons (pe_int) (pa_cons (pe_int) (pa_nil))))))) (pa_cons (pe_tup (pa_cons (pe_int) (pa_cons (pe_int) (pa_cons (pe_int) (pa_cons (pe_int) (pa_cons (pe_int) (pa_nil))))))) (pa_nil)))) rfl) (pss_cons (ps_dput (hu1 hr) (pv 1) (pe_str) (pe_tup (pa_cons (pe_tup (pa_cons (pe_int) (pa_cons (pe_int) (pa_cons (pe_int) (pa_cons (pe_int) (pa_cons (pe_int) (pa_cons (pe_int) (pa_nil)))))))) (pa_cons (pe_tup (pa_cons (pe_int) (pa_cons (pe_int) (pa_cons (pe_int) (pa_cons (pe_int) (pa_cons (pe_int) (pa_cons (pe_int) (pa_nil)))))))) (pa_nil)))) rfl) (pss_one (ps_ret (pv 1)))))))))))), ?_⟩
  exact body_end (m := mlaw_ready_moves) h (fun F0 H0 => sx_seq (sx_own 1 (ox_cb bDictK (ab_cons ((ox_lc (wx_range2 (ab_cons ((ex_int 1).b) (ab_cons ((ex_int 9).b) (ab_nil))) (mCons_len (mCons_len (mNil_len)))) (gw_name 0) (tx_yes) (ex_tup (ax_cons (ex_op (bCatS) ((ex_str "c").b) ((ex_cb bStrI (ab_cons (bx_var 0) (ab_nil))).b)) (ax_cons (ex_call (ax_cons (ex_var 0) (ax_nil))) (ax_nil))))).b) (ab_nil)))) (sx_seq (sx_put 1 (ex_str "v4") (ex_tup (ax_cons (ex_tup (ax_cons (ex_int 1) (ax_cons (ex_int 0) (ax_cons (ex_int 2) (ax_cons (ex_int 3) (ax_nil)))))) (ax_cons (ex_tup (ax_cons (ex_int 0) (ax_cons (ex_int 1) (ax_cons (ex_int 3) (ax_cons (ex_int 2) (ax_nil)))))) (ax_nil))))) (sx_seq (sx_put 1 (ex_str "c2c4") (ex_tup (ax_cons (ex_tup (ax_cons (ex_int 1) (ax_cons (ex_int 0) (ax_cons (ex_int 2) (ax_cons (ex_int 3) (ax_cons (ex_int 4) (ax_cons (ex_int 5) (ax_nil)))))))) (ax_cons (ex_tup (ax_cons (ex_int 0) (ax_cons (ex_int 1) (ax_cons (ex_int 3) (ax_cons (ex_int 4) (ax_cons (ex_int 5) (ax_cons (ex_int 2) (ax_nil)))))))) (ax_nil))))) (sx_seq (sx_put 1 (ex_str "c3c3") (ex_tup (ax_cons (ex_tup (ax_cons (ex_int 1) (ax_cons (ex_int 2) (ax_cons (ex_int 0) (ax_cons (ex_int 3) (ax_cons (ex_int 4) (ax_cons (ex_int 5) (ax_nil)))))))) (ax_cons (ex_tup (ax_cons (ex_int 0) (ax_cons (ex_int 1) (ax_cons (ex_int 2) (ax_cons (ex_int 4) (ax_cons (ex_int 5) (ax_cons (ex_int 3) (ax_nil)))))))) (ax_nil))))) (sx_seq (sx_put 1 (ex_str "s3") (ex_tup (ax_cons (ex_tup (ax_cons (ex_int 1) (ax_cons (ex_int 0) (ax_cons (ex_int 2) (ax_nil))))) (ax_cons (ex_tup (ax_cons (ex_int 1) (ax_cons (ex_int 2) (ax_cons (ex_int 0) (ax_nil))))) (ax_nil))))) (sx_seq (sx_put 1 (ex_str "d4") (ex_tup (ax_cons (ex_tup (ax_cons (ex_int 1) (ax_cons (ex_int 2) (ax_cons (ex_int 3) (ax_cons (ex_int 0) (ax_nil)))))) (ax_cons (ex_tup (ax_cons (ex_int 0) (ax_cons (ex_int 3) (ax_cons (ex_int 2) (ax_cons (ex_int 1) (ax_nil)))))) (ax_nil))))) (sx_seq (sx_put 1 (ex_str "q8") (ex_tup (ax_cons (ex_tup (ax_cons (ex_int 1) (ax_cons (ex_int 4) (ax_cons (ex_int 3) (ax_cons (ex_int 6) (ax_cons (ex_int 5) (ax_cons (ex_int 0) (ax_cons (ex_int 7) (ax_cons (ex_int 2) (ax_nil)))))))))) (ax_cons (ex_tup (ax_cons (ex_int 2) (ax_cons (ex_int 7) (ax_cons (ex_int 4) (ax_cons (ex_int 1) (ax_cons (ex_int 6) (ax_cons (ex_int 3) (ax_cons (ex_int 0) (ax_cons (ex_int 5) (ax_nil)))))))))) (ax_nil))))) (sx_seq (sx_put 1 (ex_str "a4") (ex_tup (ax_cons (ex_tup (ax_cons (ex_int 1) (ax_cons (ex_int 2) (ax_cons (ex_int 0) (ax_cons (ex_int 3) (ax_nil)))))) (ax_cons (ex_tup (ax_cons (ex_int 1) (ax_cons (ex_int 0) (ax_cons (ex_int 3) (ax_cons (ex_int 2) (ax_nil)))))) (ax_nil))))) (sx_seq (sx_put 1 (ex_str "d5") (ex_tup (ax_cons (ex_tup (ax_cons (ex_int 1) (ax_cons (ex_int 2) (ax_cons (ex_int 3) (ax_cons (ex_int 4) (ax_cons (ex_int 0) (ax_nil))))))) (ax_cons (ex_tup (ax_cons (ex_int 0) (ax_cons (ex_int 4) (ax_cons (ex_int 3) (ax_cons (ex_int 2) (ax_cons (ex_int 1) (ax_nil))))))) (ax_nil))))) (sx_seq (sx_put 1 (ex_str "d6") (ex_tup (ax_cons (ex_tup (ax_cons (ex_int 1) (ax_cons (ex_int 2) (ax_cons (ex_int 3) (ax_cons (ex_int 4) (ax_cons (ex_int 5) (ax_cons (ex_int 0) (ax_nil)))))))) (ax_cons (ex_tup (ax_cons (ex_int 0) (ax_cons (ex_int 5) (ax_cons (ex_int 4) (ax_cons (ex_int 3) (ax_cons (ex_int 2) (ax_cons (ex_int 1) (ax_nil)))))))) (ax_nil))))) (sx_frz 1 (sx_ret (ex_var 1)))))))))))))
end
abbrev slaw_parts_of_size : Stmt := top 52
theorem sclaw_parts_of_size : FnScope ["_law_group_here", "_law_size", "_law_found", "_law_one", "_law_other", "_law_part_here"] ["_law_group_here", "_law_size"] (defScope slaw_parts_of_size) := ⟨rfl, rfl, rfl, by decide +kernel, rfl, by decide +kernel, by decide +kernel⟩
def mlaw_parts_of_size : M Fl := mSeq (mOwn 2 ((fun _ => some (.dct true [] [])))) (mSeq (mFor (mRng (mCons (m2 fGetI (mAny 0) (mC (.str "size"))) (mNil))) (stN 3) (mFor (mRng (mCons (m2 fGetI (mAny 0) (mC (.str "size"))) (mNil))) (stN 4) (mSeq (mAsg (mCall 2 r_law_part (mCons (mFro 0) (mCons (mLst (mCons (mFro 3) (mCons (mFro 4) (mNil)))) (mNil)))) (stN 5)) (mIf (mBool (m2 (fEq false) (mB (f1 fLen) (mCons (mAny 5) (mNil))) (mAny 1))) (mPut 2 (mFro 5) (mC (.int 1))) (mNext))))) (mRet (mB (f1 fSortedTD) (mCons (mAny 2) (mNil)))))
def r_law_parts_of_size : List D → Option D := runD 6 mlaw_parts_of_size
section
variable {P : Program} {w : World} {K : PySem.W.Frag} {mg : Str → Option Value} {base : Heap}
theorem ok_law_parts_of_size {f : Addr} {fd : FuncData} (F : Fun K "_law_parts_of_size" "_law_parts_of_size" slaw_parts_of_size f fd) (F__law_part : Own P w K mg base 1 "_law_part" 2 r_law_part) (z_len : mg "len" = none) (z_range : mg "range" = none) (z_sorted : mg "sorted" = none) : FnOk P w K mg base CX0 2 f fd ["_law_group_here", "_law_size"] (spD K 2 r_law_parts_of_size) := by
  have sc := sclaw_parts_of_size
  refine F.ok sc (fun vs H Q E h => spD_len h) (fun cdv A outer s H vs Q E hr h => ?_)
  refine ⟨tSeq (tAsg (tDNewT) (gName 2)) (tSeq (tFor (iRng1 (tCons (tDGet (tVar 0) (tC (.str "size"))) (tNil))) (gName 3) (tFor (iRng1 (tCons (tDGet (tVar 0) (tC (.str "size"))) (tNil))) (gName 4) (tSeq (tAsg (tCall (spD K 2 r_law_part) [] E0 (tCons (tVar 0) (tCons (tLst (tCons (tVar 3) (tCons (tVar 4) (tNil)))) (tNil)))) (gName 5)) (tIfS (tTest (tOp (rEqD K) (tCB (rLenQ K) (tCons (tVar 5) (tNil))) (tVar 1))) (sDPut (tVar 2) (tVar 5) (tC (.int 1))) (tNext))))) (tRet (tCB (rSortedTD K) (tCons (tVar 2) (tNil))))), pss_cons (ps_set (i := 2) sc.nd rfl (.inl rfl) (pe_dnewT)) (pss_cons (ps_for PassesOwn.never rfl (pi_range1 rfl z_range (pa_cons (pe_dget (hu1 hr) (pv 0) (pe_str) (fun _ _ => rfl)) (pa_nil))) (pg_name (i := 3) sc.nd rfl (.inl rfl)) (pss_one (ps_for PassesOwn.never rfl (pi_range1 rfl z_range (pa_cons (pe_dget (hu1 hr) (pv 0) (pe_str) (fun _ _ => rfl)) (pa_nil))) (pg_name (i := 4) sc.nd rfl (.inl rfl)) (pss_cons (ps_set (i := 5) sc.nd rfl (.inl rfl) (pe_call F__law_part.F (hr.mono (by decide)) rfl F__law_part.g F__law_part.k F__law_part.b .nil pass0 (pa_cons (pv 0) (pa_cons (pe_lst (pa_cons (pv 3) (pa_cons (pv 4) (pa_nil)))) (pa_nil))))) (pss_one (ps_if (pt_cmpR (op_eqD (hu64 hr)) (pe_callB hLenQ rfl z_len (by decide +kernel) (pa_cons (pv 5) (pa_nil))) (pv 1) (nomark _)) (pss_one (ps_dput (hu1 hr) (pv 2) (pv 5) (pe_int) rfl)) (pss_nil))))))) (pss_one (ps_ret (pe_callB (cr_sortedTD rfl (hu64 hr)) rfl z_sorted (by decide +kernel) (pa_cons (pv 2) (pa_nil)))))), ?_⟩
  exact body_end (m := mlaw_parts_of_size) h (fun F0 H0 => sx_seq (sx_own 2 (ox_dnewT)) (sx_seq (sx_for (wx_range1 (ab_cons ((ex_dget (bx_var 0) ((ex_str "size").b)).b) (ab_nil)) (mCons_len (mNil_len))) (gx_name 3) (sx_for (wx_range1 (ab_cons ((ex_dget (bx_var 0) ((ex_str "size").b)).b) (ab_nil)) (mCons_len (mNil_len))) (gx_name 4) (sx_seq (sx_asg (ex_call (ax_cons (ex_var 0) (ax_cons ((ox_lst (ax_cons (ex_var 3) (ax_cons (ex_var 4) (ax_nil)))).x) (ax_nil)))) (gx_name 5)) (sx_if (tx_test (ex_op op_eqB ((ex_cb bLenQ (ab_cons (bx_var 5) (ab_nil))).b) (bx_var 1)).b) (sx_put 2 (ex_var 5) (ex_int 1)) (sx_next))))) (sx_ret ((ox_cb co_sortedTD (ab_cons (bx_var 2) (ab_nil))).x))))
end
abbrev slaw_prime_right : Stmt := top 53
theorem sclaw_prime_right : FnScope ["_law_group_here", "_law_told", "_law_prime", "_law_part_here", "_law_due", "_law_member", "_law_led", "_law_one"] ["_law_group_here", "_law_told", "_law_prime"] (defScope slaw_prime_right) := ⟨rfl, rfl, rfl, by decide +kernel, rfl, by decide +kernel, by decide +kernel⟩
def mlaw_prime_right : M Fl := mSeq (mAsg (mTup (mCons (mCall 2 r_prime_part (mCons (mFro 1) (mCons (mFro 2) (mNil)))) (mCons (mCall 2 r_law_greatest (mCons (m2 fGetI (mAny 0) (mC (.str "size"))) (mCons (mFro 2) (mNil)))) (mNil)))) (stTup 2 (stCons (stN 3) (stCons (stN 4) (stNil))))) (mSeq (mIf (mOr (mNot (mBool (mB (fIsi (isTupD) (isTyD "tuple") true) (mCons (mAny 3) (mCons (mC (.ty "tuple")) mNil))))) (mOr (mBool (m2 (fEq true) (mB (f1 fLen) (mCons (mAny 3) (mNil))) (mAny 4))) (mBool (m2 (fEq true) (mCall 2 r_law_part (mCons (mFro 0) (mCons (mB (f1 fun d => (seqD d).map D.lst) (mCons (mAny 3) (mNil))) (mNil)))) (mAny 3))))) (mRet (mC (.bl false))) (mNext)) (mSeq (mOwn 6 (mLc [5] (mRng (mCons (m2 fGetI (mAny 0) (mC (.str "size"))) (mNil))) (stN 5) (fun _ => some true) (mCall 3 r_moved_part (mCons (mFro 1) (mCons (mFro 3) (mCons (mFro 5) (mNil))))))) (mSeq (mIf (mBool (m2 (fEq true) (mAny 6) (mLc [5] (mRng (mCons (m2 fGetI (mAny 0) (mC (.str "size"))) (mNil))) (stN 5) (fun _ => some true) (mCall 3 r_law_moved_part (mCons (mFro 0) (mCons (mFro 3) (mCons (mFro 5) (mNil)))))))) (mRet (mC (.bl false))) (mNext)) (mRet (m2 (fEq false) (mLc [7] (mItL (mCall 2 r_law_parts_of_size (mCons (mFro 0) (mCons (mFro 4) (mNil))))) (stN 7) (mBool (m2 (fIn true) (mAny 7) (mAny 6))) (mFro 7)) (mLst (mNil)))))))
def r_law_prime_right : List D → Option D := runD 8 mlaw_prime_right
section
variable {P : Program} {w : World} {K : PySem.W.Frag} {mg : Str → Option Value} {base : Heap}
theorem ok_law_prime_right {f : Addr} {fd : FuncData} (F : Fun K "_law_prime_right" "_law_prime_right" slaw_prime_right f fd) (F__law_greatest : Own P w K mg base 1 "_law_greatest" 2 r_law_greatest) (F__law_moved_part : Own P w K mg base 1 "_law_moved_part" 3 r_law_moved_part) (F__law_part : Own P w K mg base 1 "_law_part" 2 r_law_part) (F__law_parts_of_size : Own P w K mg base 2 "_law_parts_of_size" 2 r_law_parts_of_size) (F_moved_part : Own P w K mg base 7 "moved_part" 3 r_moved_part) (F_prime_part : Own P w K mg base 5 "prime_part" 2 r_prime_part) (z_isinstance : mg "isinstance" = none) (z_len : mg "len" = none) (z_list : mg "list" = none) (z_range : mg "range" = none) (z_tuple : mg "tuple" = none) : FnOk P w K mg base CX0 8 f fd ["_law_group_here", "_law_told", "_law_prime"] (spD K 3 r_law_prime_right) := by
  have sc := sclaw_prime_right
  refine F.ok sc (fun vs H Q E h => spD_len h) (fun cdv A outer s H vs Q E hr h => ?_)
  refine ⟨tSeq (tAsg (tTup (tCons (tCall (spD K 2 r_prime_part) [] E0 (tCons (tVar 1) (tCons (tVar 2) (tNil)))) (tCons (tCall (spD K 2 r_law_greatest) [] E0 (tCons (tDGet (tVar 0) (tC (.str "size"))) (tCons (tVar 2) (tNil)))) (tNil)))) (gTup K 2 (gCons (gName 3) (gCons (gName 4) (gNil))))) (tSeq (tIfS (tOr (tNot (tB (tCB (rIsi K) (tCons (tVar 3) (tCons (tC (.ty "tuple")) tNil))))) (tOr (tTest (tOp (rNeD K) (tCB (rLenQ K) (tCons (tVar 3) (tNil))) (tVar 4))) (tTest (tOp (rNeD K) (tCall (spD K 2 r_law_part) [] E0 (tCons (tVar 0) (tCons (tCB (rLstQ K) (tCons (tVar 3) (tNil))) (tNil)))) (tVar 3))))) (tRet (tC (.bl false))) (tNext)) (tSeq (tAsg (tLc (iRng1 (tCons (tDGet (tVar 0) (tC (.str "size"))) (tNil))) (gName 5) (tYes) (tCall (spD K 3 r_moved_part) [] E0 (tCons (tVar 1) (tCons (tVar 3) (tCons (tVar 5) (tNil))))) [5]) (gName 6)) (tSeq (tIfS (tTest (tOp (rNeD K) (tVar 6) (tLc (iRng1 (tCons (tDGet (tVar 0) (tC (.str "size"))) (tNil))) (gName 5) (tYes) (tCall (spD K 3 r_law_moved_part) [] E0 (tCons (tVar 0) (tCons (tVar 3) (tCons (tVar 5) (tNil))))) [5]))) (tRet (tC (.bl false))) (tNext)) (tRet (tOp (rEqD K) (tLc (iList K (tCall (spD K 2 r_law_parts_of_size) [] E0 (tCons (tVar 0) (tCons (tVar 4) (tNil))))) (gName 7) (tTest (tOp (rNotInD K) (tVar 7) (tVar 6))) (tVar 7) [7]) (tLst (tNil))))))), pss_cons (ps_asg (pe_tup (pa_cons (pe_call F_prime_part.F (hr.mono (by decide)) rfl F_prime_part.g F_prime_part.k F_prime_part.b .nil pass0 (pa_cons (pv 1) (pa_cons (pv 2) (pa_nil)))) (pa_cons (pe_call F__law_greatest.F (hr.mono (by decide)) rfl F__law_greatest.g F__law_greatest.k F__law_greatest.b .nil pass0 (pa_cons (pe_dget (hu1 hr) (pv 0) (pe_str) (fun _ _ => rfl)) (pa_cons (pv 2) (pa_nil)))) (pa_nil)))) (pg_tup rfl (pgs_cons (pg_name (i := 3) sc.nd rfl (.inr rfl)) (pgs_cons (pg_name (i := 4) sc.nd rfl (.inl rfl)) (pgs_nil))))) (pss_cons (ps_if (PW.pt (pw_or (pt_not (pt_val (pe_callB call_isi rfl z_isinstance (by decide +kernel) (pa_cons (pv 3) (pa_cons (pe_bltn rfl z_tuple (by decide +kernel) rfl) pa_nil))) (fun _ => rfl))) (pw_or (pt_cmpR (op_neD (hu64 hr)) (pe_callB hLenQ rfl z_len (by decide +kernel) (pa_cons (pv 3) (pa_nil))) (pv 4) (nomark _)) (pw_or1 (pt_cmpR (op_neD (hu64 hr)) (pe_call F__law_part.F (hr.mono (by decide)) rfl F__law_part.g F__law_part.k F__law_part.b .nil pass0 (pa_cons (pv 0) (pa_cons (pe_callTy hLstQ rfl z_list (by decide +kernel) (pa_cons (pv 3) (pa_nil))) (pa_nil)))) (pv 3) (nomark _)))))) (pss_one (ps_ret (pe_bl))) (pss_nil)) (pss_cons (ps_set (i := 6) sc.nd rfl (.inr rfl) (pe_lc (own := [("_law_member", 5)]) rfl sc.nd (pi_range1 rfl z_range (pa_cons (pe_dget (hu1 hr) (pv 0) (pe_str) (fun _ _ => rfl)) (pa_nil))) (blkOk_by (by rfl)) (fun _ _ _ _ _ => pg_name (i := 5) sc.nd rfl (.inl rfl)) (fun _ _ _ _ _ => pts_nil) (fun _ _ _ _ _ => pe_call F_moved_part.F (hr.mono (by decide)) rfl F_moved_part.g F_moved_part.k F_moved_part.b .nil pass0 (pa_cons (pv 1) (pa_cons (pv 3) (pa_cons (pv 5) (pa_nil))))))) (pss_cons (ps_if (pt_cmpR (op_neD (hu64 hr)) (pv 6) (pe_lc (own := [("_law_member", 5)]) rfl sc.nd (pi_range1 rfl z_range (pa_cons (pe_dget (hu1 hr) (pv 0) (pe_str) (fun _ _ => rfl)) (pa_nil))) (blkOk_by (by rfl)) (fun _ _ _ _ _ => pg_name (i := 5) sc.nd rfl (.inl rfl)) (fun _ _ _ _ _ => pts_nil) (fun _ _ _ _ _ => pe_call F__law_moved_part.F (hr.mono (by decide)) rfl F__law_moved_part.g F__law_moved_part.k F__law_moved_part.b .nil pass0 (pa_cons (pv 0) (pa_cons (pv 3) (pa_cons (pv 5) (pa_nil)))))) (nomark _)) (pss_one (ps_ret (pe_bl))) (pss_nil)) (pss_one (ps_ret (pe_cmpR (op_eqD (hu64 hr)) (pe_lc (own := [("_law_one", 7)]) rfl sc.nd (pi_list (pe_call F__law_parts_of_size.F (hr.mono (by decide)) rfl F__law_parts_of_size.g F__law_parts_of_size.k F__law_parts_of_size.b .nil pass0 (pa_cons (pv 0) (pa_cons (pv 4) (pa_nil))))) (blkOk_by (by rfl)) (fun _ _ _ _ _ => pg_name (i := 7) sc.nd rfl (.inl rfl)) (fun _ _ _ _ _ => pts_one (pt_cmpR (op_notInD (hu65 hr)) (pv 7) (pv 6) (by rfl))) (fun _ _ _ _ _ => pv 7)) (pe_lst (pa_nil)) (nomark _))))))), ?_⟩
  exact body_end (m := mlaw_prime_right) h (fun F0 H0 => sx_seq (sx_asg (ex_tup (ax_cons (ex_call (ax_cons (ex_var 1) (ax_cons (ex_var 2) (ax_nil)))) (ax_cons (ex_call (ax_cons (ex_dget (bx_var 0) ((ex_str "size").b)) (ax_cons (ex_var 2) (ax_nil)))) (ax_nil)))) (gx_tup (gsx_cons (gx_name 3) (gsx_cons (gx_name 4) (gsx_nil))))) (sx_seq (sx_if (tx_or (tx_not (tx_b ((ex_cb (cb_isi (kd := isTupD) (cd := isTyD "tuple") tyx_tup cls_ty (kit_ty (by decide +kernel))) (ab_cons (bx_var 3) (ab_cons ((ex_ty "tuple").b) ab_nil))).b))) (tx_or (tx_test (ex_op op_neB ((ex_cb bLenQ (ab_cons (bx_var 3) (ab_nil))).b) (bx_var 4)).b) (tx_test (ex_op op_neB ((ex_call (ax_cons (ex_var 0) (ax_cons ((ox_cb bLstQ (ab_cons (bx_var 3) (ab_nil))).x) (ax_nil)))).b) (bx_var 3)).b))) (sx_ret (ex_bl false)) (sx_next)) (sx_seq (sx_own 6 (ox_lc (wx_range1 (ab_cons ((ex_dget (bx_var 0) ((ex_str "size").b)).b) (ab_nil)) (mCons_len (mNil_len))) (gw_name 5) (tx_yes) (ex_call (ax_cons (ex_var 1) (ax_cons (ex_var 3) (ax_cons (ex_var 5) (ax_nil))))))) (sx_seq (sx_if (tx_test (ex_op op_neB (bx_var 6) ((ox_lc (wx_range1 (ab_cons ((ex_dget (bx_var 0) ((ex_str "size").b)).b) (ab_nil)) (mCons_len (mNil_len))) (gw_name 5) (tx_yes) (ex_call (ax_cons (ex_var 0) (ax_cons (ex_var 3) (ax_cons (ex_var 5) (ax_nil)))))).b)).b) (sx_ret (ex_bl false)) (sx_next)) (sx_ret (ex_op op_eqB ((ox_lc (wx_list (ex_call (ax_cons (ex_var 0) (ax_cons (ex_var 4) (ax_nil))))) (gw_name 7) (tx_test (ex_op op_ninB (bx_var 7) (bx_var 6)).b) (ex_var 7)).b) ((ox_lst (ax_nil)).b)))))))
end
abbrev sself_settle : Stmt := inClass (top 16) 1
theorem scself_settle : FnScope ["self", "moves", "index", "move", "index_of", "one", "other", "row"] ["self", "moves"] (defScope sself_settle) := ⟨rfl, rfl, rfl, by decide +kernel, rfl, by decide +kernel, by decide +kernel⟩
def mself_settle : M Fl := mSeq (mOwn 4 (mDcT [2, 3] (mItET (mFro 1)) (stTup 2 (stCons (stN 2) (stCons (stN 3) (stNil)))) (fun _ => some true) (mFro 3) (mFro 2))) (mSeq (mSetF 0 aG "_moves" (mFro 1)) (mSeq (mSetF 0 aG "_members" (mF fTupR (mB (f1 fLen) (mCons (mAny 1) (mNil))))) (mSeq (mSetF 0 aG "_products" (mB (f1 fun d => (lstD d).map D.tup) (mCons (mLc [5] (mItT (mFro 1)) (stN 5) (fun _ => some true) (mB (f1 fun d => (lstD d).map D.ftup) (mCons (mLc [6] (mItT (mFro 1)) (stN 6) (fun _ => some true) (m2 fGetI (mAny 4) (mCall 2 r_joined (mCons (mFro 5) (mCons (mFro 6) (mNil)))))) (mNil)))) (mNil)))) (mSetF 0 aG "_inverses" (mB (f1 fun d => (lstD d).map D.tup) (mCons (mLc [7] (mItT (mFld aG "_products" (mAny 0))) (stN 7) (fun _ => some true) (m2 fTIdx (mFro 7) (mC (.int 0)))) (mNil)))))))
def r_self_settle : D → Option D := runS 8 aG mself_settle
section
variable {P : Program} {w : World} {K : PySem.W.Frag} {mg : Str → Option Value} {base : Heap}
theorem ok_self_settle {f : Addr} {fd : FuncData} (F : Fun K "_settle" "Group._settle" sself_settle f fd) (F_joined : Own P w K mg base 1 "joined" 2 r_joined) (T : Txt K) (z_enumerate : mg "enumerate" = none) (z_len : mg "len" = none) (z_range : mg "range" = none) (z_tuple : mg "tuple" = none) : FnOk P w K mg base CX0 2 f fd ["self", "moves"] (spSelf K aG r_self_settle) := by
  have sc := scself_settle
  refine F.ok sc (fun vs H Q E h => spSelf_len h) (fun cdv A outer s H vs Q E hr h => ?_)
  refine ⟨tSeq (tAsg (tDcT (iEnumT K (tCons (tVar 1) tNil)) (gTup K 2 (gCons (gName 2) (gCons (gName 3) (gNil)))) (tYes) (tVar 3) (tVar 2) [2, 3]) (gName 4)) (tSeq (sFld K (tVar 0) (tVar 1) "_moves") (tSeq (sFld K (tVar 0) (tTupRg (tRg1 (tCB (rLenQ K) (tCons (tVar 1) (tNil))))) "_members") (tSeq (sFld K (tVar 0) (tCB (rTupQ K) (tCons (tLc (iTup K (tVar 1)) (gName 5) (tYes) (tCB (rTupF K) (tCons (tLc (iTup K (tVar 1)) (gName 6) (tYes) (tDGet (tVar 4) (tCall (spD K 2 r_joined) [] E0 (tCons (tVar 5) (tCons (tVar 6) (tNil))))) [6]) (tNil))) [5]) (tNil))) "_products") (sFld K (tVar 0) (tCB (rTupQ K) (tCons (tLc (iTup K (tFld K (tVar 0) "_products")) (gName 7) (tYes) (tBMF "tuple" (rTIdx K) (tVar 7) (tCons (tC (.int 0)) tNil)) [7]) (tNil))) "_inverses")))), pss_cons (ps_set (i := 4) sc.nd rfl (.inr rfl) (pe_dcT (own := [("index", 2), ("move", 3)]) rfl sc.nd (hu1 hr) (pi_enumT rfl z_enumerate (pa_cons (pv 1) pa_nil)) (blkOk_by (by rfl)) (fun _ _ _ _ _ => pg_tup rfl (pgs_cons (pg_name (i := 2) sc.nd rfl (.inl rfl)) (pgs_cons (pg_name (i := 3) sc.nd rfl (.inl rfl)) (pgs_nil)))) (fun _ _ _ _ _ => pts_nil) (fun _ _ _ _ _ => pv 3) (fun _ _ _ _ _ => pv 2))) (pss_cons (ps_fld (pv 0) (pv 1) rfl) (pss_cons (ps_fld (pv 0) (pe_tupRg rfl rfl z_tuple (prg_1 rfl z_range (pe_callB hLenQ rfl z_len (by decide +kernel) (pa_cons (pv 1) (pa_nil))))) rfl) (pss_cons (ps_fld (pv 0) (pe_callTy hTupQ rfl z_tuple (by decide +kernel) (pa_cons (pe_lc (own := [("one", 5)]) rfl sc.nd (pi_tup (pv 1)) (blkOk_by (by rfl)) (fun _ _ _ _ _ => pg_name (i := 5) sc.nd rfl (.inr rfl)) (fun _ _ _ _ _ => pts_nil) (fun _ _ _ _ _ => pe_callTy hTupF rfl z_tuple (by decide +kernel) (pa_cons (pe_lc (own := [("other", 6)]) rfl sc.nd (pi_tup (pv 1)) (blkOk_by (by rfl)) (fun _ _ _ _ _ => pg_name (i := 6) sc.nd rfl (.inl rfl)) (fun _ _ _ _ _ => pts_nil) (fun _ _ _ _ _ => pe_dget (hu1 hr) (pv 4) (pe_call F_joined.F (hr.mono (by decide)) rfl F_joined.g F_joined.k F_joined.b .nil pass0 (pa_cons (pv 5) (pa_cons (pv 6) (pa_nil)))) (fun _ _ => rfl))) (pa_nil)))) (pa_nil))) rfl) (pss_one (ps_fld (pv 0) (pe_callTy hTupQ rfl z_tuple (by decide +kernel) (pa_cons (pe_lc (own := [("row", 7)]) rfl sc.nd (pi_tup (pe_fld (pv 0) (by rfl))) (blkOk_by (by rfl)) (fun _ _ _ _ _ => pg_name (i := 7) sc.nd rfl (.inl rfl)) (fun _ _ _ _ _ => pts_nil) (fun _ _ _ _ _ => pe_bmF PySem.F.plainAttrs_tuple PySem.F.slot_tuple_index PySem.F.type_tuple_index mt_tidx (pv 7) (pa_cons (pe_int) pa_nil))) (pa_nil))) rfl))))), ?_⟩
  exact self_end (m := mself_settle) h (fun F0 H0 => sp_seq (sp_own 4 (by decide) (ox_dcT (wx_enumT (ex_var 1)) (gw_tup2 2 3) (tx_yes) (ex_var 3) (ex_var 2))) (sp_seq (sp_fld T.cl T.n_moves (ex_var 1)) (sp_seq (sp_fld T.cl T.n_members (ex_tupRg (ex_cb bLenQ (ab_cons (bx_var 1) (ab_nil))))) (sp_seq (sp_fld T.cl T.n_products (ex_cb bTupQ (ab_cons ((ox_lc (wx_tup (ex_var 1)) (gw_name 5) (tx_yes) (ex_cb bTupF (ab_cons ((ox_lc (wx_tup (ex_var 1)) (gw_name 6) (tx_yes) (ex_dget (bx_var 4) ((ex_call (ax_cons (ex_var 5) (ax_cons (ex_var 6) (ax_nil)))).b))).b) (ab_nil)))).b) (ab_nil)))) (sp_fld T.cl T.n_inverses (ex_cb bTupQ (ab_cons ((ox_lc (wx_tup (ex_fld T.cl T.n_products (bx_var 0))) (gw_name 7) (tx_yes) (ex_tidx (ex_var 7) (ex_int 0))).b) (ab_nil))))))))
end
abbrev sself_init : Stmt := inClass (top 16) 0
theorem scself_init : FnScope ["self", "moves"] ["self", "moves"] (defScope sself_init) := ⟨rfl, rfl, rfl, by decide +kernel, rfl, by decide +kernel, by decide +kernel⟩
def mself_init : M Fl := mSeq (mIf (mNot (mBool (mCall 1 r_are_moves (mCons (mFro 1) (mNil))))) (mStop) (mNext)) (mMethS 0 aG r_self_settle (mCall 1 r_all_renamings (mCons (mFro 1) (mNil))))
def r_self_init : D → Option D := runS 2 aG mself_init
section
variable {P : Program} {w : World} {K : PySem.W.Frag} {mg : Str → Option Value} {base : Heap}
theorem ok_self_init {f : Addr} {fd : FuncData} (F : Fun K "__init__" "Group.__init__" sself_init f fd) (F_all_renamings : Own P w K mg base 2 "all_renamings" 1 r_all_renamings) (F_are_moves : Own P w K mg base 5 "are_moves" 1 r_are_moves) (Se_settle : OwnSelf P w K mg base 2 aG "_settle" r_self_settle) : FnOk P w K mg base CX0 6 f fd ["self", "moves"] (spSelf K aG r_self_init) := by
  have sc := scself_init
  refine F.ok sc (fun vs H Q E h => spSelf_len h) (fun cdv A outer s H vs Q E hr h => ?_)
  refine ⟨tSeq (tIfS (tNot (tB (tCall (spD K 1 r_are_moves) [] E0 (tCons (tVar 1) (tNil))))) ((fun _ _ _ => False)) (tNext)) (tDrop (tMeth aG "_settle" (spSelf K aG r_self_settle) [] E0 (tVar 0) (tCons (tCall (spD K 1 r_all_renamings) [] E0 (tCons (tVar 1) (tNil))) tNil))), pss_cons (ps_if (pt_not (pt_val (pe_call F_are_moves.F (hr.mono (by decide)) rfl F_are_moves.g F_are_moves.k F_are_moves.b .nil pass0 (pa_cons (pv 1) (pa_nil))) (fun _ => rfl))) (pss_one (ps_no)) (pss_nil)) (pss_one (ps_expr (pe_meth (pv 0) Se_settle.c Se_settle.m Se_settle.F (hr.mono (by decide)) Se_settle.b .nil pass0 (pa_cons (pe_call F_all_renamings.F (hr.mono (by decide)) rfl F_all_renamings.g F_all_renamings.k F_all_renamings.b .nil pass0 (pa_cons (pv 1) (pa_nil))) pa_nil)))), ?_⟩
  exact self_end (m := mself_init) h (fun F0 H0 => sp_seq (sp_if (tx_not (tx_b ((ex_call (ax_cons (ex_var 1) (ax_nil))).b))) (sp_stop) (sp_next)) (sp_meth (ex_call (ax_cons (ex_var 1) (ax_nil)))))
end
structure All (P : Program) (w : World) (K : PySem.W.Frag) (mg : Str → Option Value) (base : Heap) where
  F_is_short : Own P w K mg base 1 "is_short" 1 r_is_short
  F_is_integer : Own P w K mg base 2 "is_integer" 1 r_is_integer
  F_is_within : Own P w K mg base 3 "is_within" 3 r_is_within
  F_joined : Own P w K mg base 1 "joined" 2 r_joined
  F_all_renamings : Own P w K mg base 2 "all_renamings" 1 r_all_renamings
  F_power_of : Own P w K mg base 1 "power_of" 3 r_power_of
  F_closed_members : Own P w K mg base 1 "closed_members" 2 r_closed_members
  F_is_renaming : Own P w K mg base 4 "is_renaming" 1 r_is_renaming
  F_are_moves : Own P w K mg base 5 "are_moves" 1 r_are_moves
  F__law_behind : Own P w K mg base 1 "_law_behind" 2 r_law_behind
  F__law_made : Own P w K mg base 2 "_law_made" 1 r_law_made
  F__law_round_moves : Own P w K mg base 1 "_law_round_moves" 1 r_law_round_moves
  F__law_part : Own P w K mg base 1 "_law_part" 2 r_law_part
  F__law_moved_part : Own P w K mg base 1 "_law_moved_part" 3 r_law_moved_part
  F__law_greatest : Own P w K mg base 1 "_law_greatest" 2 r_law_greatest
  Pr_size : OwnProp P w K mg base 1 aG "size" r_p_size
  Pr_moves : OwnProp P w K mg base 1 aG "moves" r_p_moves
  Pr_all_products : OwnProp P w K mg base 1 aG "all_products" r_p_all_products
  Pr_all_inverses : OwnProp P w K mg base 1 aG "all_inverses" r_p_all_inverses
  F_is_member : Own P w K mg base 4 "is_member" 2 r_is_member
  F_need_group : Own P w K mg base 1 "need_group" 1 r_need_group
  F_need_member : Own P w K mg base 5 "need_member" 2 r_need_member
  F_is_group_part : Own P w K mg base 5 "is_group_part" 2 r_is_group_part
  F_need_part : Own P w K mg base 6 "need_part" 2 r_need_part
  F_moved_members : Own P w K mg base 3 "moved_members" 3 r_moved_members
  F_moved_part : Own P w K mg base 7 "moved_part" 3 r_moved_part
  F_need_prime : Own P w K mg base 3 "need_prime" 1 r_need_prime
  F_greater_part : Own P w K mg base 4 "greater_part" 3 r_greater_part
  F_prime_part : Own P w K mg base 5 "prime_part" 2 r_prime_part
  F_normalizer_of : Own P w K mg base 7 "normalizer_of" 2 r_normalizer_of
  F_generated_rounds : Own P w K mg base 3 "generated_rounds" 1 r_generated_rounds
  F_is_commuting : Own P w K mg base 7 "is_commuting" 2 r_is_commuting
  F_centralizer_of : Own P w K mg base 7 "centralizer_of" 2 r_centralizer_of
  F__law_group : Own P w K mg base 3 "_law_group" 1 r_law_group
  F__law_ready_moves : Own P w K mg base 2 "_law_ready_moves" 0 r_law_ready_moves
  F__law_parts_of_size : Own P w K mg base 2 "_law_parts_of_size" 2 r_law_parts_of_size
  F__law_prime_right : Own P w K mg base 8 "_law_prime_right" 3 r_law_prime_right
  Se_settle : OwnSelf P w K mg base 2 aG "_settle" r_self_settle
  Init : OwnInit P w K mg base 6 aG "Group" r_self_init
set_option maxHeartbeats 8000000 in
theorem all_own {P : Program} {w : World} {K : PySem.W.Frag} {h base : Heap} {mg : Str → Option Value} (X : K.In h) (Gh : h.Ns mainGlobals mg)
  {f_is_short : Addr} {od_is_short an_is_short : Option Addr} {sl_is_short : Array (Option Value)} {oc_is_short kV_is_short dc_is_short pm_is_short cd_is_short ct_is_short : Value}
  {f_is_integer : Addr} {od_is_integer an_is_integer : Option Addr} {sl_is_integer : Array (Option Value)} {oc_is_integer kV_is_integer dc_is_integer pm_is_integer cd_is_integer ct_is_integer : Value}
  {f_is_within : Addr} {od_is_within an_is_within : Option Addr} {sl_is_within : Array (Option Value)} {oc_is_within kV_is_within dc_is_within pm_is_within cd_is_within ct_is_within : Value}
  {f_joined : Addr} {od_joined an_joined : Option Addr} {sl_joined : Array (Option Value)} {oc_joined kV_joined dc_joined pm_joined cd_joined ct_joined : Value}
  {f_all_renamings : Addr} {od_all_renamings an_all_renamings : Option Addr} {sl_all_renamings : Array (Option Value)} {oc_all_renamings kV_all_renamings dc_all_renamings pm_all_renamings cd_all_renamings ct_all_renamings : Value}
  {f_power_of : Addr} {od_power_of an_power_of : Option Addr} {sl_power_of : Array (Option Value)} {oc_power_of kV_power_of dc_power_of pm_power_of cd_power_of ct_power_of : Value}
  {f_closed_members : Addr} {od_closed_members an_closed_members : Option Addr} {sl_closed_members : Array (Option Value)} {oc_closed_members kV_closed_members dc_closed_members pm_closed_members cd_closed_members ct_closed_members : Value}
  {f_is_renaming : Addr} {od_is_renaming an_is_renaming : Option Addr} {sl_is_renaming : Array (Option Value)} {oc_is_renaming kV_is_renaming dc_is_renaming pm_is_renaming cd_is_renaming ct_is_renaming : Value}
  {f_are_moves : Addr} {od_are_moves an_are_moves : Option Addr} {sl_are_moves : Array (Option Value)} {oc_are_moves kV_are_moves dc_are_moves pm_are_moves cd_are_moves ct_are_moves : Value}
  {f_law_behind : Addr} {od_law_behind an_law_behind : Option Addr} {sl_law_behind : Array (Option Value)} {oc_law_behind kV_law_behind dc_law_behind pm_law_behind cd_law_behind ct_law_behind : Value}
  {f_law_made : Addr} {od_law_made an_law_made : Option Addr} {sl_law_made : Array (Option Value)} {oc_law_made kV_law_made dc_law_made pm_law_made cd_law_made ct_law_made : Value}
  {f_law_round_moves : Addr} {od_law_round_moves an_law_round_moves : Option Addr} {sl_law_round_moves : Array (Option Value)} {oc_law_round_moves kV_law_round_moves dc_law_round_moves pm_law_round_moves cd_law_round_moves ct_law_round_moves : Value}
  {f_law_part : Addr} {od_law_part an_law_part : Option Addr} {sl_law_part : Array (Option Value)} {oc_law_part kV_law_part dc_law_part pm_law_part cd_law_part ct_law_part : Value}
  {f_law_moved_part : Addr} {od_law_moved_part an_law_moved_part : Option Addr} {sl_law_moved_part : Array (Option Value)} {oc_law_moved_part kV_law_moved_part dc_law_moved_part pm_law_moved_part cd_law_moved_part ct_law_moved_part : Value}
  {f_law_greatest : Addr} {od_law_greatest an_law_greatest : Option Addr} {sl_law_greatest : Array (Option Value)} {oc_law_greatest kV_law_greatest dc_law_greatest pm_law_greatest cd_law_greatest ct_law_greatest : Value}
  {f_p_size : Addr} {od_p_size an_p_size : Option Addr} {sl_p_size : Array (Option Value)} {oc_p_size kV_p_size dc_p_size pm_p_size cd_p_size ct_p_size : Value}
  {p_p_size : Addr} {re_p_size : List Value}
  {f_p_moves : Addr} {od_p_moves an_p_moves : Option Addr} {sl_p_moves : Array (Option Value)} {oc_p_moves kV_p_moves dc_p_moves pm_p_moves cd_p_moves ct_p_moves : Value}
  {p_p_moves : Addr} {re_p_moves : List Value}
  {f_p_all_products : Addr} {od_p_all_products an_p_all_products : Option Addr} {sl_p_all_products : Array (Option Value)} {oc_p_all_products kV_p_all_products dc_p_all_products pm_p_all_products cd_p_all_products ct_p_all_products : Value}
  {p_p_all_products : Addr} {re_p_all_products : List Value}
  {f_p_all_inverses : Addr} {od_p_all_inverses an_p_all_inverses : Option Addr} {sl_p_all_inverses : Array (Option Value)} {oc_p_all_inverses kV_p_all_inverses dc_p_all_inverses pm_p_all_inverses cd_p_all_inverses ct_p_all_inverses : Value}
  {p_p_all_inverses : Addr} {re_p_all_inverses : List Value}
  {f_is_member : Addr} {od_is_member an_is_member : Option Addr} {sl_is_member : Array (Option Value)} {oc_is_member kV_is_member dc_is_member pm_is_member cd_is_member ct_is_member : Value}
  {f_need_group : Addr} {od_need_group an_need_group : Option Addr} {sl_need_group : Array (Option Value)} {oc_need_group kV_need_group dc_need_group pm_need_group cd_need_group ct_need_group : Value}
  {f_need_member : Addr} {od_need_member an_need_member : Option Addr} {sl_need_member : Array (Option Value)} {oc_need_member kV_need_member dc_need_member pm_need_member cd_need_member ct_need_member : Value}
  {f_is_group_part : Addr} {od_is_group_part an_is_group_part : Option Addr} {sl_is_group_part : Array (Option Value)} {oc_is_group_part kV_is_group_part dc_is_group_part pm_is_group_part cd_is_group_part ct_is_group_part : Value}
  {f_need_part : Addr} {od_need_part an_need_part : Option Addr} {sl_need_part : Array (Option Value)} {oc_need_part kV_need_part dc_need_part pm_need_part cd_need_part ct_need_part : Value}
  {f_moved_members : Addr} {od_moved_members an_moved_members : Option Addr} {sl_moved_members : Array (Option Value)} {oc_moved_members kV_moved_members dc_moved_members pm_moved_members cd_moved_members ct_moved_members : Value}
  {f_moved_part : Addr} {od_moved_part an_moved_part : Option Addr} {sl_moved_part : Array (Option Value)} {oc_moved_part kV_moved_part dc_moved_part pm_moved_part cd_moved_part ct_moved_part : Value}
  {f_need_prime : Addr} {od_need_prime an_need_prime : Option Addr} {sl_need_prime : Array (Option Value)} {oc_need_prime kV_need_prime dc_need_prime pm_need_prime cd_need_prime ct_need_prime : Value}
  {f_greater_part : Addr} {od_greater_part an_greater_part : Option Addr} {sl_greater_part : Array (Option Value)} {oc_greater_part kV_greater_part dc_greater_part pm_greater_part cd_greater_part ct_greater_part : Value}
  {f_prime_part : Addr} {od_prime_part an_prime_part : Option Addr} {sl_prime_part : Array (Option Value)} {oc_prime_part kV_prime_part dc_prime_part pm_prime_part cd_prime_part ct_prime_part : Value}
  {f_normalizer_of : Addr} {od_normalizer_of an_normalizer_of : Option Addr} {sl_normalizer_of : Array (Option Value)} {oc_normalizer_of kV_normalizer_of dc_normalizer_of pm_normalizer_of cd_normalizer_of ct_normalizer_of : Value}
  {f_generated_rounds : Addr} {od_generated_rounds an_generated_rounds : Option Addr} {sl_generated_rounds : Array (Option Value)} {oc_generated_rounds kV_generated_rounds dc_generated_rounds pm_generated_rounds cd_generated_rounds ct_generated_rounds : Value}
  {f_is_commuting : Addr} {od_is_commuting an_is_commuting : Option Addr} {sl_is_commuting : Array (Option Value)} {oc_is_commuting kV_is_commuting dc_is_commuting pm_is_commuting cd_is_commuting ct_is_commuting : Value}
  {f_centralizer_of : Addr} {od_centralizer_of an_centralizer_of : Option Addr} {sl_centralizer_of : Array (Option Value)} {oc_centralizer_of kV_centralizer_of dc_centralizer_of pm_centralizer_of cd_centralizer_of ct_centralizer_of : Value}
  {f_law_group : Addr} {od_law_group an_law_group : Option Addr} {sl_law_group : Array (Option Value)} {oc_law_group kV_law_group dc_law_group pm_law_group cd_law_group ct_law_group : Value}
  {f_law_ready_moves : Addr} {od_law_ready_moves an_law_ready_moves : Option Addr} {sl_law_ready_moves : Array (Option Value)} {oc_law_ready_moves kV_law_ready_moves dc_law_ready_moves pm_law_ready_moves cd_law_ready_moves ct_law_ready_moves : Value}
  {f_law_parts_of_size : Addr} {od_law_parts_of_size an_law_parts_of_size : Option Addr} {sl_law_parts_of_size : Array (Option Value)} {oc_law_parts_of_size kV_law_parts_of_size dc_law_parts_of_size pm_law_parts_of_size cd_law_parts_of_size ct_law_parts_of_size : Value}
  {f_law_prime_right : Addr} {od_law_prime_right an_law_prime_right : Option Addr} {sl_law_prime_right : Array (Option Value)} {oc_law_prime_right kV_law_prime_right dc_law_prime_right pm_law_prime_right cd_law_prime_right ct_law_prime_right : Value}
  {f_self_settle : Addr} {od_self_settle an_self_settle : Option Addr} {sl_self_settle : Array (Option Value)} {oc_self_settle kV_self_settle dc_self_settle pm_self_settle cd_self_settle ct_self_settle : Value}
  {f_self_init : Addr} {od_self_init an_self_init : Option Addr} {sl_self_init : Array (Option Value)} {oc_self_init kV_self_init dc_self_init pm_self_init cd_self_init ct_self_init : Value}
  {t_FIRST_TOO_LONG : Tok}
  {t_MAX_SIZE : Tok}
  {t_MAX_PLACES : Tok}
  {t_MOST_MOVES : Tok}
  (a_is_short : PySem.W.nsIn K mainGlobals "is_short" = some (some (.ref f_is_short)))
  (l_is_short : K.lookup f_is_short = some ⟨oc_is_short, od_is_short, .func (PySem.W.fnOf "is_short" "is_short" (defArgs sis_short) (defBody sis_short) (defScope sis_short) .none kV_is_short dc_is_short pm_is_short an_is_short cd_is_short ct_is_short), sl_is_short⟩)
  (c_is_short : PySem.W.codeIn K cd_is_short "is_short" = true)
  (k_is_short : PySem.W.keepIn K (.ref f_is_short) = true)
  (a_is_integer : PySem.W.nsIn K mainGlobals "is_integer" = some (some (.ref f_is_integer)))
  (l_is_integer : K.lookup f_is_integer = some ⟨oc_is_integer, od_is_integer, .func (PySem.W.fnOf "is_integer" "is_integer" (defArgs sis_integer) (defBody sis_integer) (defScope sis_integer) .none kV_is_integer dc_is_integer pm_is_integer an_is_integer cd_is_integer ct_is_integer), sl_is_integer⟩)
  (c_is_integer : PySem.W.codeIn K cd_is_integer "is_integer" = true)
  (k_is_integer : PySem.W.keepIn K (.ref f_is_integer) = true)
  (a_is_within : PySem.W.nsIn K mainGlobals "is_within" = some (some (.ref f_is_within)))
  (l_is_within : K.lookup f_is_within = some ⟨oc_is_within, od_is_within, .func (PySem.W.fnOf "is_within" "is_within" (defArgs sis_within) (defBody sis_within) (defScope sis_within) .none kV_is_within dc_is_within pm_is_within an_is_within cd_is_within ct_is_within), sl_is_within⟩)
  (c_is_within : PySem.W.codeIn K cd_is_within "is_within" = true)
  (k_is_within : PySem.W.keepIn K (.ref f_is_within) = true)
  (a_joined : PySem.W.nsIn K mainGlobals "joined" = some (some (.ref f_joined)))
  (l_joined : K.lookup f_joined = some ⟨oc_joined, od_joined, .func (PySem.W.fnOf "joined" "joined" (defArgs sjoined) (defBody sjoined) (defScope sjoined) .none kV_joined dc_joined pm_joined an_joined cd_joined ct_joined), sl_joined⟩)
  (c_joined : PySem.W.codeIn K cd_joined "joined" = true)
  (k_joined : PySem.W.keepIn K (.ref f_joined) = true)
  (a_all_renamings : PySem.W.nsIn K mainGlobals "all_renamings" = some (some (.ref f_all_renamings)))
  (l_all_renamings : K.lookup f_all_renamings = some ⟨oc_all_renamings, od_all_renamings, .func (PySem.W.fnOf "all_renamings" "all_renamings" (defArgs sall_renamings) (defBody sall_renamings) (defScope sall_renamings) .none kV_all_renamings dc_all_renamings pm_all_renamings an_all_renamings cd_all_renamings ct_all_renamings), sl_all_renamings⟩)
  (c_all_renamings : PySem.W.codeIn K cd_all_renamings "all_renamings" = true)
  (k_all_renamings : PySem.W.keepIn K (.ref f_all_renamings) = true)
  (a_power_of : PySem.W.nsIn K mainGlobals "power_of" = some (some (.ref f_power_of)))
  (l_power_of : K.lookup f_power_of = some ⟨oc_power_of, od_power_of, .func (PySem.W.fnOf "power_of" "power_of" (defArgs spower_of) (defBody spower_of) (defScope spower_of) .none kV_power_of dc_power_of pm_power_of an_power_of cd_power_of ct_power_of), sl_power_of⟩)
  (c_power_of : PySem.W.codeIn K cd_power_of "power_of" = true)
  (k_power_of : PySem.W.keepIn K (.ref f_power_of) = true)
  (a_closed_members : PySem.W.nsIn K mainGlobals "closed_members" = some (some (.ref f_closed_members)))
  (l_closed_members : K.lookup f_closed_members = some ⟨oc_closed_members, od_closed_members, .func (PySem.W.fnOf "closed_members" "closed_members" (defArgs sclosed_members) (defBody sclosed_members) (defScope sclosed_members) .none kV_closed_members dc_closed_members pm_closed_members an_closed_members cd_closed_members ct_closed_members), sl_closed_members⟩)
  (c_closed_members : PySem.W.codeIn K cd_closed_members "closed_members" = true)
  (k_closed_members : PySem.W.keepIn K (.ref f_closed_members) = true)
  (a_is_renaming : PySem.W.nsIn K mainGlobals "is_renaming" = some (some (.ref f_is_renaming)))
  (l_is_renaming : K.lookup f_is_renaming = some ⟨oc_is_renaming, od_is_renaming, .func (PySem.W.fnOf "is_renaming" "is_renaming" (defArgs sis_renaming) (defBody sis_renaming) (defScope sis_renaming) .none kV_is_renaming dc_is_renaming pm_is_renaming an_is_renaming cd_is_renaming ct_is_renaming), sl_is_renaming⟩)
  (c_is_renaming : PySem.W.codeIn K cd_is_renaming "is_renaming" = true)
  (k_is_renaming : PySem.W.keepIn K (.ref f_is_renaming) = true)
  (a_are_moves : PySem.W.nsIn K mainGlobals "are_moves" = some (some (.ref f_are_moves)))
  (l_are_moves : K.lookup f_are_moves = some ⟨oc_are_moves, od_are_moves, .func (PySem.W.fnOf "are_moves" "are_moves" (defArgs sare_moves) (defBody sare_moves) (defScope sare_moves) .none kV_are_moves dc_are_moves pm_are_moves an_are_moves cd_are_moves ct_are_moves), sl_are_moves⟩)
  (c_are_moves : PySem.W.codeIn K cd_are_moves "are_moves" = true)
  (k_are_moves : PySem.W.keepIn K (.ref f_are_moves) = true)
  (a_law_behind : PySem.W.nsIn K mainGlobals "_law_behind" = some (some (.ref f_law_behind)))
  (l_law_behind : K.lookup f_law_behind = some ⟨oc_law_behind, od_law_behind, .func (PySem.W.fnOf "_law_behind" "_law_behind" (defArgs slaw_behind) (defBody slaw_behind) (defScope slaw_behind) .none kV_law_behind dc_law_behind pm_law_behind an_law_behind cd_law_behind ct_law_behind), sl_law_behind⟩)
  (c_law_behind : PySem.W.codeIn K cd_law_behind "_law_behind" = true)
  (k_law_behind : PySem.W.keepIn K (.ref f_law_behind) = true)
  (a_law_made : PySem.W.nsIn K mainGlobals "_law_made" = some (some (.ref f_law_made)))
  (l_law_made : K.lookup f_law_made = some ⟨oc_law_made, od_law_made, .func (PySem.W.fnOf "_law_made" "_law_made" (defArgs slaw_made) (defBody slaw_made) (defScope slaw_made) .none kV_law_made dc_law_made pm_law_made an_law_made cd_law_made ct_law_made), sl_law_made⟩)
  (c_law_made : PySem.W.codeIn K cd_law_made "_law_made" = true)
  (k_law_made : PySem.W.keepIn K (.ref f_law_made) = true)
  (a_law_round_moves : PySem.W.nsIn K mainGlobals "_law_round_moves" = some (some (.ref f_law_round_moves)))
  (l_law_round_moves : K.lookup f_law_round_moves = some ⟨oc_law_round_moves, od_law_round_moves, .func (PySem.W.fnOf "_law_round_moves" "_law_round_moves" (defArgs slaw_round_moves) (defBody slaw_round_moves) (defScope slaw_round_moves) .none kV_law_round_moves dc_law_round_moves pm_law_round_moves an_law_round_moves cd_law_round_moves ct_law_round_moves), sl_law_round_moves⟩)
  (c_law_round_moves : PySem.W.codeIn K cd_law_round_moves "_law_round_moves" = true)
  (k_law_round_moves : PySem.W.keepIn K (.ref f_law_round_moves) = true)
  (a_law_part : PySem.W.nsIn K mainGlobals "_law_part" = some (some (.ref f_law_part)))
  (l_law_part : K.lookup f_law_part = some ⟨oc_law_part, od_law_part, .func (PySem.W.fnOf "_law_part" "_law_part" (defArgs slaw_part) (defBody slaw_part) (defScope slaw_part) .none kV_law_part dc_law_part pm_law_part an_law_part cd_law_part ct_law_part), sl_law_part⟩)
  (c_law_part : PySem.W.codeIn K cd_law_part "_law_part" = true)
  (k_law_part : PySem.W.keepIn K (.ref f_law_part) = true)
  (a_law_moved_part : PySem.W.nsIn K mainGlobals "_law_moved_part" = some (some (.ref f_law_moved_part)))
  (l_law_moved_part : K.lookup f_law_moved_part = some ⟨oc_law_moved_part, od_law_moved_part, .func (PySem.W.fnOf "_law_moved_part" "_law_moved_part" (defArgs slaw_moved_part) (defBody slaw_moved_part) (defScope slaw_moved_part) .none kV_law_moved_part dc_law_moved_part pm_law_moved_part an_law_moved_part cd_law_moved_part ct_law_moved_part), sl_law_moved_part⟩)
  (c_law_moved_part : PySem.W.codeIn K cd_law_moved_part "_law_moved_part" = true)
  (k_law_moved_part : PySem.W.keepIn K (.ref f_law_moved_part) = true)
  (a_law_greatest : PySem.W.nsIn K mainGlobals "_law_greatest" = some (some (.ref f_law_greatest)))
  (l_law_greatest : K.lookup f_law_greatest = some ⟨oc_law_greatest, od_law_greatest, .func (PySem.W.fnOf "_law_greatest" "_law_greatest" (defArgs slaw_greatest) (defBody slaw_greatest) (defScope slaw_greatest) .none kV_law_greatest dc_law_greatest pm_law_greatest an_law_greatest cd_law_greatest ct_law_greatest), sl_law_greatest⟩)
  (c_law_greatest : PySem.W.codeIn K cd_law_greatest "_law_greatest" = true)
  (k_law_greatest : PySem.W.keepIn K (.ref f_law_greatest) = true)
  (a_p_size : PySem.W.findIn K (.ref aG) "size" = some (some (.ref p_p_size)))
  (g_p_size : PySem.W.specialIn K (.ref p_p_size) "__get__" = some (some (.builtin "property.__get__")))
  (t_p_size : PySem.W.takesIn K (.ref p_p_size) = some true)
  (e_p_size : PySem.W.recIn K p_p_size "property" = some (.ref f_p_size :: re_p_size))
  (l_p_size : K.lookup f_p_size = some ⟨oc_p_size, od_p_size, .func (PySem.W.fnOf "size" "Group.size" (defArgs sp_size) (defBody sp_size) (defScope sp_size) .none kV_p_size dc_p_size pm_p_size an_p_size cd_p_size ct_p_size), sl_p_size⟩)
  (c_p_size : PySem.W.codeIn K cd_p_size "Group.size" = true)
  (k_p_size : PySem.W.keepIn K (.ref f_p_size) = true)
  (a_p_moves : PySem.W.findIn K (.ref aG) "moves" = some (some (.ref p_p_moves)))
  (g_p_moves : PySem.W.specialIn K (.ref p_p_moves) "__get__" = some (some (.builtin "property.__get__")))
  (t_p_moves : PySem.W.takesIn K (.ref p_p_moves) = some true)
  (e_p_moves : PySem.W.recIn K p_p_moves "property" = some (.ref f_p_moves :: re_p_moves))
  (l_p_moves : K.lookup f_p_moves = some ⟨oc_p_moves, od_p_moves, .func (PySem.W.fnOf "moves" "Group.moves" (defArgs sp_moves) (defBody sp_moves) (defScope sp_moves) .none kV_p_moves dc_p_moves pm_p_moves an_p_moves cd_p_moves ct_p_moves), sl_p_moves⟩)
  (c_p_moves : PySem.W.codeIn K cd_p_moves "Group.moves" = true)
  (k_p_moves : PySem.W.keepIn K (.ref f_p_moves) = true)
  (a_p_all_products : PySem.W.findIn K (.ref aG) "all_products" = some (some (.ref p_p_all_products)))
  (g_p_all_products : PySem.W.specialIn K (.ref p_p_all_products) "__get__" = some (some (.builtin "property.__get__")))
  (t_p_all_products : PySem.W.takesIn K (.ref p_p_all_products) = some true)
  (e_p_all_products : PySem.W.recIn K p_p_all_products "property" = some (.ref f_p_all_products :: re_p_all_products))
  (l_p_all_products : K.lookup f_p_all_products = some ⟨oc_p_all_products, od_p_all_products, .func (PySem.W.fnOf "all_products" "Group.all_products" (defArgs sp_all_products) (defBody sp_all_products) (defScope sp_all_products) .none kV_p_all_products dc_p_all_products pm_p_all_products an_p_all_products cd_p_all_products ct_p_all_products), sl_p_all_products⟩)
  (c_p_all_products : PySem.W.codeIn K cd_p_all_products "Group.all_products" = true)
  (k_p_all_products : PySem.W.keepIn K (.ref f_p_all_products) = true)
  (a_p_all_inverses : PySem.W.findIn K (.ref aG) "all_inverses" = some (some (.ref p_p_all_inverses)))
  (g_p_all_inverses : PySem.W.specialIn K (.ref p_p_all_inverses) "__get__" = some (some (.builtin "property.__get__")))
  (t_p_all_inverses : PySem.W.takesIn K (.ref p_p_all_inverses) = some true)
  (e_p_all_inverses : PySem.W.recIn K p_p_all_inverses "property" = some (.ref f_p_all_inverses :: re_p_all_inverses))
  (l_p_all_inverses : K.lookup f_p_all_inverses = some ⟨oc_p_all_inverses, od_p_all_inverses, .func (PySem.W.fnOf "all_inverses" "Group.all_inverses" (defArgs sp_all_inverses) (defBody sp_all_inverses) (defScope sp_all_inverses) .none kV_p_all_inverses dc_p_all_inverses pm_p_all_inverses an_p_all_inverses cd_p_all_inverses ct_p_all_inverses), sl_p_all_inverses⟩)
  (c_p_all_inverses : PySem.W.codeIn K cd_p_all_inverses "Group.all_inverses" = true)
  (k_p_all_inverses : PySem.W.keepIn K (.ref f_p_all_inverses) = true)
  (a_is_member : PySem.W.nsIn K mainGlobals "is_member" = some (some (.ref f_is_member)))
  (l_is_member : K.lookup f_is_member = some ⟨oc_is_member, od_is_member, .func (PySem.W.fnOf "is_member" "is_member" (defArgs sis_member) (defBody sis_member) (defScope sis_member) .none kV_is_member dc_is_member pm_is_member an_is_member cd_is_member ct_is_member), sl_is_member⟩)
  (c_is_member : PySem.W.codeIn K cd_is_member "is_member" = true)
  (k_is_member : PySem.W.keepIn K (.ref f_is_member) = true)
  (a_need_group : PySem.W.nsIn K mainGlobals "need_group" = some (some (.ref f_need_group)))
  (l_need_group : K.lookup f_need_group = some ⟨oc_need_group, od_need_group, .func (PySem.W.fnOf "need_group" "need_group" (defArgs sneed_group) (defBody sneed_group) (defScope sneed_group) .none kV_need_group dc_need_group pm_need_group an_need_group cd_need_group ct_need_group), sl_need_group⟩)
  (c_need_group : PySem.W.codeIn K cd_need_group "need_group" = true)
  (k_need_group : PySem.W.keepIn K (.ref f_need_group) = true)
  (a_need_member : PySem.W.nsIn K mainGlobals "need_member" = some (some (.ref f_need_member)))
  (l_need_member : K.lookup f_need_member = some ⟨oc_need_member, od_need_member, .func (PySem.W.fnOf "need_member" "need_member" (defArgs sneed_member) (defBody sneed_member) (defScope sneed_member) .none kV_need_member dc_need_member pm_need_member an_need_member cd_need_member ct_need_member), sl_need_member⟩)
  (c_need_member : PySem.W.codeIn K cd_need_member "need_member" = true)
  (k_need_member : PySem.W.keepIn K (.ref f_need_member) = true)
  (a_is_group_part : PySem.W.nsIn K mainGlobals "is_group_part" = some (some (.ref f_is_group_part)))
  (l_is_group_part : K.lookup f_is_group_part = some ⟨oc_is_group_part, od_is_group_part, .func (PySem.W.fnOf "is_group_part" "is_group_part" (defArgs sis_group_part) (defBody sis_group_part) (defScope sis_group_part) .none kV_is_group_part dc_is_group_part pm_is_group_part an_is_group_part cd_is_group_part ct_is_group_part), sl_is_group_part⟩)
  (c_is_group_part : PySem.W.codeIn K cd_is_group_part "is_group_part" = true)
  (k_is_group_part : PySem.W.keepIn K (.ref f_is_group_part) = true)
  (a_need_part : PySem.W.nsIn K mainGlobals "need_part" = some (some (.ref f_need_part)))
  (l_need_part : K.lookup f_need_part = some ⟨oc_need_part, od_need_part, .func (PySem.W.fnOf "need_part" "need_part" (defArgs sneed_part) (defBody sneed_part) (defScope sneed_part) .none kV_need_part dc_need_part pm_need_part an_need_part cd_need_part ct_need_part), sl_need_part⟩)
  (c_need_part : PySem.W.codeIn K cd_need_part "need_part" = true)
  (k_need_part : PySem.W.keepIn K (.ref f_need_part) = true)
  (a_moved_members : PySem.W.nsIn K mainGlobals "moved_members" = some (some (.ref f_moved_members)))
  (l_moved_members : K.lookup f_moved_members = some ⟨oc_moved_members, od_moved_members, .func (PySem.W.fnOf "moved_members" "moved_members" (defArgs smoved_members) (defBody smoved_members) (defScope smoved_members) .none kV_moved_members dc_moved_members pm_moved_members an_moved_members cd_moved_members ct_moved_members), sl_moved_members⟩)
  (c_moved_members : PySem.W.codeIn K cd_moved_members "moved_members" = true)
  (k_moved_members : PySem.W.keepIn K (.ref f_moved_members) = true)
  (a_moved_part : PySem.W.nsIn K mainGlobals "moved_part" = some (some (.ref f_moved_part)))
  (l_moved_part : K.lookup f_moved_part = some ⟨oc_moved_part, od_moved_part, .func (PySem.W.fnOf "moved_part" "moved_part" (defArgs smoved_part) (defBody smoved_part) (defScope smoved_part) .none kV_moved_part dc_moved_part pm_moved_part an_moved_part cd_moved_part ct_moved_part), sl_moved_part⟩)
  (c_moved_part : PySem.W.codeIn K cd_moved_part "moved_part" = true)
  (k_moved_part : PySem.W.keepIn K (.ref f_moved_part) = true)
  (a_need_prime : PySem.W.nsIn K mainGlobals "need_prime" = some (some (.ref f_need_prime)))
  (l_need_prime : K.lookup f_need_prime = some ⟨oc_need_prime, od_need_prime, .func (PySem.W.fnOf "need_prime" "need_prime" (defArgs sneed_prime) (defBody sneed_prime) (defScope sneed_prime) .none kV_need_prime dc_need_prime pm_need_prime an_need_prime cd_need_prime ct_need_prime), sl_need_prime⟩)
  (c_need_prime : PySem.W.codeIn K cd_need_prime "need_prime" = true)
  (k_need_prime : PySem.W.keepIn K (.ref f_need_prime) = true)
  (a_greater_part : PySem.W.nsIn K mainGlobals "greater_part" = some (some (.ref f_greater_part)))
  (l_greater_part : K.lookup f_greater_part = some ⟨oc_greater_part, od_greater_part, .func (PySem.W.fnOf "greater_part" "greater_part" (defArgs sgreater_part) (defBody sgreater_part) (defScope sgreater_part) .none kV_greater_part dc_greater_part pm_greater_part an_greater_part cd_greater_part ct_greater_part), sl_greater_part⟩)
  (c_greater_part : PySem.W.codeIn K cd_greater_part "greater_part" = true)
  (k_greater_part : PySem.W.keepIn K (.ref f_greater_part) = true)
  (a_prime_part : PySem.W.nsIn K mainGlobals "prime_part" = some (some (.ref f_prime_part)))
  (l_prime_part : K.lookup f_prime_part = some ⟨oc_prime_part, od_prime_part, .func (PySem.W.fnOf "prime_part" "prime_part" (defArgs sprime_part) (defBody sprime_part) (defScope sprime_part) .none kV_prime_part dc_prime_part pm_prime_part an_prime_part cd_prime_part ct_prime_part), sl_prime_part⟩)
  (c_prime_part : PySem.W.codeIn K cd_prime_part "prime_part" = true)
  (k_prime_part : PySem.W.keepIn K (.ref f_prime_part) = true)
  (a_normalizer_of : PySem.W.nsIn K mainGlobals "normalizer_of" = some (some (.ref f_normalizer_of)))
  (l_normalizer_of : K.lookup f_normalizer_of = some ⟨oc_normalizer_of, od_normalizer_of, .func (PySem.W.fnOf "normalizer_of" "normalizer_of" (defArgs snormalizer_of) (defBody snormalizer_of) (defScope snormalizer_of) .none kV_normalizer_of dc_normalizer_of pm_normalizer_of an_normalizer_of cd_normalizer_of ct_normalizer_of), sl_normalizer_of⟩)
  (c_normalizer_of : PySem.W.codeIn K cd_normalizer_of "normalizer_of" = true)
  (k_normalizer_of : PySem.W.keepIn K (.ref f_normalizer_of) = true)
  (a_generated_rounds : PySem.W.nsIn K mainGlobals "generated_rounds" = some (some (.ref f_generated_rounds)))
  (l_generated_rounds : K.lookup f_generated_rounds = some ⟨oc_generated_rounds, od_generated_rounds, .func (PySem.W.fnOf "generated_rounds" "generated_rounds" (defArgs sgenerated_rounds) (defBody sgenerated_rounds) (defScope sgenerated_rounds) .none kV_generated_rounds dc_generated_rounds pm_generated_rounds an_generated_rounds cd_generated_rounds ct_generated_rounds), sl_generated_rounds⟩)
  (c_generated_rounds : PySem.W.codeIn K cd_generated_rounds "generated_rounds" = true)
  (k_generated_rounds : PySem.W.keepIn K (.ref f_generated_rounds) = true)
  (a_is_commuting : PySem.W.nsIn K mainGlobals "is_commuting" = some (some (.ref f_is_commuting)))
  (l_is_commuting : K.lookup f_is_commuting = some ⟨oc_is_commuting, od_is_commuting, .func (PySem.W.fnOf "is_commuting" "is_commuting" (defArgs sis_commuting) (defBody sis_commuting) (defScope sis_commuting) .none kV_is_commuting dc_is_commuting pm_is_commuting an_is_commuting cd_is_commuting ct_is_commuting), sl_is_commuting⟩)
  (c_is_commuting : PySem.W.codeIn K cd_is_commuting "is_commuting" = true)
  (k_is_commuting : PySem.W.keepIn K (.ref f_is_commuting) = true)
  (a_centralizer_of : PySem.W.nsIn K mainGlobals "centralizer_of" = some (some (.ref f_centralizer_of)))
  (l_centralizer_of : K.lookup f_centralizer_of = some ⟨oc_centralizer_of, od_centralizer_of, .func (PySem.W.fnOf "centralizer_of" "centralizer_of" (defArgs scentralizer_of) (defBody scentralizer_of) (defScope scentralizer_of) .none kV_centralizer_of dc_centralizer_of pm_centralizer_of an_centralizer_of cd_centralizer_of ct_centralizer_of), sl_centralizer_of⟩)
  (c_centralizer_of : PySem.W.codeIn K cd_centralizer_of "centralizer_of" = true)
  (k_centralizer_of : PySem.W.keepIn K (.ref f_centralizer_of) = true)
  (a_law_group : PySem.W.nsIn K mainGlobals "_law_group" = some (some (.ref f_law_group)))
  (l_law_group : K.lookup f_law_group = some ⟨oc_law_group, od_law_group, .func (PySem.W.fnOf "_law_group" "_law_group" (defArgs slaw_group) (defBody slaw_group) (defScope slaw_group) .none kV_law_group dc_law_group pm_law_group an_law_group cd_law_group ct_law_group), sl_law_group⟩)
  (c_law_group : PySem.W.codeIn K cd_law_group "_law_group" = true)
  (k_law_group : PySem.W.keepIn K (.ref f_law_group) = true)
  (a_law_ready_moves : PySem.W.nsIn K mainGlobals "_law_ready_moves" = some (some (.ref f_law_ready_moves)))
  (l_law_ready_moves : K.lookup f_law_ready_moves = some ⟨oc_law_ready_moves, od_law_ready_moves, .func (PySem.W.fnOf "_law_ready_moves" "_law_ready_moves" (defArgs slaw_ready_moves) (defBody slaw_ready_moves) (defScope slaw_ready_moves) .none kV_law_ready_moves dc_law_ready_moves pm_law_ready_moves an_law_ready_moves cd_law_ready_moves ct_law_ready_moves), sl_law_ready_moves⟩)
  (c_law_ready_moves : PySem.W.codeIn K cd_law_ready_moves "_law_ready_moves" = true)
  (k_law_ready_moves : PySem.W.keepIn K (.ref f_law_ready_moves) = true)
  (a_law_parts_of_size : PySem.W.nsIn K mainGlobals "_law_parts_of_size" = some (some (.ref f_law_parts_of_size)))
  (l_law_parts_of_size : K.lookup f_law_parts_of_size = some ⟨oc_law_parts_of_size, od_law_parts_of_size, .func (PySem.W.fnOf "_law_parts_of_size" "_law_parts_of_size" (defArgs slaw_parts_of_size) (defBody slaw_parts_of_size) (defScope slaw_parts_of_size) .none kV_law_parts_of_size dc_law_parts_of_size pm_law_parts_of_size an_law_parts_of_size cd_law_parts_of_size ct_law_parts_of_size), sl_law_parts_of_size⟩)
  (c_law_parts_of_size : PySem.W.codeIn K cd_law_parts_of_size "_law_parts_of_size" = true)
  (k_law_parts_of_size : PySem.W.keepIn K (.ref f_law_parts_of_size) = true)
  (a_law_prime_right : PySem.W.nsIn K mainGlobals "_law_prime_right" = some (some (.ref f_law_prime_right)))
  (l_law_prime_right : K.lookup f_law_prime_right = some ⟨oc_law_prime_right, od_law_prime_right, .func (PySem.W.fnOf "_law_prime_right" "_law_prime_right" (defArgs slaw_prime_right) (defBody slaw_prime_right) (defScope slaw_prime_right) .none kV_law_prime_right dc_law_prime_right pm_law_prime_right an_law_prime_right cd_law_prime_right ct_law_prime_right), sl_law_prime_right⟩)
  (c_law_prime_right : PySem.W.codeIn K cd_law_prime_right "_law_prime_right" = true)
  (k_law_prime_right : PySem.W.keepIn K (.ref f_law_prime_right) = true)
  (a_self_settle : PySem.W.findIn K (.ref aG) "_settle" = some (some (.ref f_self_settle)))
  (i_self_settle : PySem.W.isFn K (.ref f_self_settle) = true)
  (l_self_settle : K.lookup f_self_settle = some ⟨oc_self_settle, od_self_settle, .func (PySem.W.fnOf "_settle" "Group._settle" (defArgs sself_settle) (defBody sself_settle) (defScope sself_settle) .none kV_self_settle dc_self_settle pm_self_settle an_self_settle cd_self_settle ct_self_settle), sl_self_settle⟩)
  (c_self_settle : PySem.W.codeIn K cd_self_settle "Group._settle" = true)
  (k_self_settle : PySem.W.keepIn K (.ref f_self_settle) = true)
  (a_self_init : PySem.W.findIn K (.ref aG) "__init__" = some (some (.ref f_self_init)))
  (i_self_init : PySem.W.isFn K (.ref f_self_init) = true)
  (l_self_init : K.lookup f_self_init = some ⟨oc_self_init, od_self_init, .func (PySem.W.fnOf "__init__" "Group.__init__" (defArgs sself_init) (defBody sself_init) (defScope sself_init) .none kV_self_init dc_self_init pm_self_init an_self_init cd_self_init ct_self_init), sl_self_init⟩)
  (c_self_init : PySem.W.codeIn K cd_self_init "Group.__init__" = true)
  (k_self_init : PySem.W.keepIn K (.ref f_self_init) = true)
  (pg : PySem.W.plainGet K aG Str.empty = true)
  (hd : PySem.W.hasDictIn K aG = true)
  (po : PySem.W.plainOver K aG = true)
  (sa : PySem.W.findIn K (.ref aG) "__setattr__" = some (some (.builtin "object.__setattr__")))
  (n1 : PySem.W.findIn K (.ref aG) "_moves" = some none)
  (n2 : PySem.W.findIn K (.ref aG) "_members" = some none)
  (n3 : PySem.W.findIn K (.ref aG) "_products" = some none)
  (n4 : PySem.W.findIn K (.ref aG) "_inverses" = some none)
  (h2 : PySem.W.findIn K (.ref aG) "__class__" = some (some (.builtin "object.__class__")))
  (h3 : PySem.W.specialIn K (.builtin "object.__class__") "__get__" = some (some (.builtin "getset_descriptor.__get__")))
  (h4 : PySem.W.takesIn K (.builtin "object.__class__") = some true)
  (h5 : PySem.W.mroIn K aG (.type "object") = some true)
  (kt : PySem.W.kitOne K (.ref aG) (.ref aG) = some true)
  (aC : PySem.W.nsIn K mainGlobals "Group" = some (some (.ref aG)))
  (mk : PySem.W.makesIn K aG = true)
  (kc : PySem.W.keepIn K (.ref aG) = true)
  (y_FIRST_TOO_LONG : PySem.W.nsIn K mainGlobals "FIRST_TOO_LONG" = some (some (.int (10 ^ 60) t_FIRST_TOO_LONG)))
  (y_int : PySem.W.nsIn K mainGlobals "int" = some none)
  (y_isinstance : PySem.W.nsIn K mainGlobals "isinstance" = some none)
  (y_bool : PySem.W.nsIn K mainGlobals "bool" = some none)
  (y_tuple : PySem.W.nsIn K mainGlobals "tuple" = some none)
  (y_len : PySem.W.nsIn K mainGlobals "len" = some none)
  (y_range : PySem.W.nsIn K mainGlobals "range" = some none)
  (y_MAX_SIZE : PySem.W.nsIn K mainGlobals "MAX_SIZE" = some (some (.int (32) t_MAX_SIZE)))
  (y_sorted : PySem.W.nsIn K mainGlobals "sorted" = some none)
  (y_MAX_PLACES : PySem.W.nsIn K mainGlobals "MAX_PLACES" = some (some (.int (32) t_MAX_PLACES)))
  (y_all : PySem.W.nsIn K mainGlobals "all" = some none)
  (y_set : PySem.W.nsIn K mainGlobals "set" = some none)
  (y_MOST_MOVES : PySem.W.nsIn K mainGlobals "MOST_MOVES" = some (some (.int (4) t_MOST_MOVES)))
  (y_list : PySem.W.nsIn K mainGlobals "list" = some none)
  (y_PRIMES : PySem.W.nsIn K mainGlobals "PRIMES" = some (some (.ref aPR)))
  (k_PRIMES : KTup K aPR [2, 3, 5, 7, 11, 13, 17, 19, 23, 29, 31])
  (y_enumerate : PySem.W.nsIn K mainGlobals "enumerate" = some none)
  (y_dict : PySem.W.nsIn K mainGlobals "dict" = some none)
  (y_str : PySem.W.nsIn K mainGlobals "str" = some none) : Nonempty (All P w K mg base) := by
  have T : Txt K := ⟨⟨pg, hd, po, sa⟩, n1, n2, n3, n4, h2, h3, h4, h5, kt⟩
  have gG : mg "Group" = some (.ref aG) := PySem.W.mg_of X Gh aC
  have g_FIRST_TOO_LONG : ∃ t, mg "FIRST_TOO_LONG" = some (.int (10 ^ 60) t) := ⟨_, PySem.W.mg_of X Gh y_FIRST_TOO_LONG⟩
  have z_int : mg "int" = none := PySem.W.mg_none_of X Gh y_int
  have z_isinstance : mg "isinstance" = none := PySem.W.mg_none_of X Gh y_isinstance
  have z_bool : mg "bool" = none := PySem.W.mg_none_of X Gh y_bool
  have z_tuple : mg "tuple" = none := PySem.W.mg_none_of X Gh y_tuple
  have z_len : mg "len" = none := PySem.W.mg_none_of X Gh y_len
  have z_range : mg "range" = none := PySem.W.mg_none_of X Gh y_range
  have g_MAX_SIZE : ∃ t, mg "MAX_SIZE" = some (.int (32) t) := ⟨_, PySem.W.mg_of X Gh y_MAX_SIZE⟩
  have z_sorted : mg "sorted" = none := PySem.W.mg_none_of X Gh y_sorted
  have g_MAX_PLACES : ∃ t, mg "MAX_PLACES" = some (.int (32) t) := ⟨_, PySem.W.mg_of X Gh y_MAX_PLACES⟩
  have z_all : mg "all" = none := PySem.W.mg_none_of X Gh y_all
  have z_set : mg "set" = none := PySem.W.mg_none_of X Gh y_set
  have g_MOST_MOVES : ∃ t, mg "MOST_MOVES" = some (.int (4) t) := ⟨_, PySem.W.mg_of X Gh y_MOST_MOVES⟩
  have z_list : mg "list" = none := PySem.W.mg_none_of X Gh y_list
  have g_Group := gG
  have g_PRIMES : mg "PRIMES" = some (.ref aPR) := PySem.W.mg_of X Gh y_PRIMES
  have z_enumerate : mg "enumerate" = none := PySem.W.mg_none_of X Gh y_enumerate
  have z_dict : mg "dict" = none := PySem.W.mg_none_of X Gh y_dict
  have z_str : mg "str" = none := PySem.W.mg_none_of X Gh y_str
  have Fu_is_short := fun_mk (st := sis_short) l_is_short c_is_short k_is_short
  have b_is_short := Fu_is_short.binds (ps := ["number"]) fun _ _ _ _ _ _ us hl => match us, hl with | [_], _ => rfl
  have F_is_short : Own P w K mg base 1 "is_short" 1 r_is_short := ⟨_, _, _, ok_is_short Fu_is_short g_FIRST_TOO_LONG, PySem.W.mg_of X Gh a_is_short, k_is_short, b_is_short⟩
  have Fu_is_integer := fun_mk (st := sis_integer) l_is_integer c_is_integer k_is_integer
  have b_is_integer := Fu_is_integer.binds (ps := ["value"]) fun _ _ _ _ _ _ us hl => match us, hl with | [_], _ => rfl
  have F_is_integer : Own P w K mg base 2 "is_integer" 1 r_is_integer := ⟨_, _, _, ok_is_integer Fu_is_integer F_is_short z_bool z_int z_isinstance, PySem.W.mg_of X Gh a_is_integer, k_is_integer, b_is_integer⟩
  have Fu_is_within := fun_mk (st := sis_within) l_is_within c_is_within k_is_within
  have b_is_within := Fu_is_within.binds (ps := ["value", "least", "most"]) fun _ _ _ _ _ _ us hl => match us, hl with | [_, _, _], _ => rfl
  have F_is_within : Own P w K mg base 3 "is_within" 3 r_is_within := ⟨_, _, _, ok_is_within Fu_is_within F_is_integer, PySem.W.mg_of X Gh a_is_within, k_is_within, b_is_within⟩
  have Fu_joined := fun_mk (st := sjoined) l_joined c_joined k_joined
  have b_joined := Fu_joined.binds (ps := ["one", "other"]) fun _ _ _ _ _ _ us hl => match us, hl with | [_, _], _ => rfl
  have F_joined : Own P w K mg base 1 "joined" 2 r_joined := ⟨_, _, _, ok_joined Fu_joined z_tuple, PySem.W.mg_of X Gh a_joined, k_joined, b_joined⟩
  have Fu_all_renamings := fun_mk (st := sall_renamings) l_all_renamings c_all_renamings k_all_renamings
  have b_all_renamings := Fu_all_renamings.binds (ps := ["moves"]) fun _ _ _ _ _ _ us hl => match us, hl with | [_], _ => rfl
  have F_all_renamings : Own P w K mg base 2 "all_renamings" 1 r_all_renamings := ⟨_, _, _, ok_all_renamings Fu_all_renamings F_joined g_MAX_SIZE z_len z_range z_sorted z_tuple, PySem.W.mg_of X Gh a_all_renamings, k_all_renamings, b_all_renamings⟩
  have Fu_power_of := fun_mk (st := spower_of) l_power_of c_power_of k_power_of
  have b_power_of := Fu_power_of.binds (ps := ["products", "member", "number"]) fun _ _ _ _ _ _ us hl => match us, hl with | [_, _, _], _ => rfl
  have F_power_of : Own P w K mg base 1 "power_of" 3 r_power_of := ⟨_, _, _, ok_power_of Fu_power_of z_range, PySem.W.mg_of X Gh a_power_of, k_power_of, b_power_of⟩
  have Fu_closed_members := fun_mk (st := sclosed_members) l_closed_members c_closed_members k_closed_members
  have b_closed_members := Fu_closed_members.binds (ps := ["products", "makers"]) fun _ _ _ _ _ _ us hl => match us, hl with | [_, _], _ => rfl
  have F_closed_members : Own P w K mg base 1 "closed_members" 2 r_closed_members := ⟨_, _, _, ok_closed_members Fu_closed_members z_sorted z_tuple, PySem.W.mg_of X Gh a_closed_members, k_closed_members, b_closed_members⟩
  have Fu_is_renaming := fun_mk (st := sis_renaming) l_is_renaming c_is_renaming k_is_renaming
  have b_is_renaming := Fu_is_renaming.binds (ps := ["value"]) fun _ _ _ _ _ _ us hl => match us, hl with | [_], _ => rfl
  have F_is_renaming : Own P w K mg base 4 "is_renaming" 1 r_is_renaming := ⟨_, _, _, ok_is_renaming Fu_is_renaming F_is_within g_MAX_PLACES z_all z_isinstance z_len z_set z_tuple, PySem.W.mg_of X Gh a_is_renaming, k_is_renaming, b_is_renaming⟩
  have Fu_are_moves := fun_mk (st := sare_moves) l_are_moves c_are_moves k_are_moves
  have b_are_moves := Fu_are_moves.binds (ps := ["value"]) fun _ _ _ _ _ _ us hl => match us, hl with | [_], _ => rfl
  have F_are_moves : Own P w K mg base 5 "are_moves" 1 r_are_moves := ⟨_, _, _, ok_are_moves Fu_are_moves F_is_renaming g_MOST_MOVES z_all z_isinstance z_len z_tuple, PySem.W.mg_of X Gh a_are_moves, k_are_moves, b_are_moves⟩
  have Fu_law_behind := fun_mk (st := slaw_behind) l_law_behind c_law_behind k_law_behind
  have b_law_behind := Fu_law_behind.binds (ps := ["_law_one", "_law_other"]) fun _ _ _ _ _ _ us hl => match us, hl with | [_, _], _ => rfl
  have F__law_behind : Own P w K mg base 1 "_law_behind" 2 r_law_behind := ⟨_, _, _, ok_law_behind Fu_law_behind z_tuple, PySem.W.mg_of X Gh a_law_behind, k_law_behind, b_law_behind⟩
  have Fu_law_made := fun_mk (st := slaw_made) l_law_made c_law_made k_law_made
  have b_law_made := Fu_law_made.binds (ps := ["_law_moves"]) fun _ _ _ _ _ _ us hl => match us, hl with | [_], _ => rfl
  have F__law_made : Own P w K mg base 2 "_law_made" 1 r_law_made := ⟨_, _, _, ok_law_made Fu_law_made F__law_behind z_len z_list z_range z_sorted z_tuple, PySem.W.mg_of X Gh a_law_made, k_law_made, b_law_made⟩
  have Fu_law_round_moves := fun_mk (st := slaw_round_moves) l_law_round_moves c_law_round_moves k_law_round_moves
  have b_law_round_moves := Fu_law_round_moves.binds (ps := ["_law_size"]) fun _ _ _ _ _ _ us hl => match us, hl with | [_], _ => rfl
  have F__law_round_moves : Own P w K mg base 1 "_law_round_moves" 1 r_law_round_moves := ⟨_, _, _, ok_law_round_moves Fu_law_round_moves z_int z_range z_tuple, PySem.W.mg_of X Gh a_law_round_moves, k_law_round_moves, b_law_round_moves⟩
  have Fu_law_part := fun_mk (st := slaw_part) l_law_part c_law_part k_law_part
  have b_law_part := Fu_law_part.binds (ps := ["_law_group_here", "_law_makers"]) fun _ _ _ _ _ _ us hl => match us, hl with | [_, _], _ => rfl
  have F__law_part : Own P w K mg base 1 "_law_part" 2 r_law_part := ⟨_, _, _, ok_law_part Fu_law_part z_list z_sorted z_tuple, PySem.W.mg_of X Gh a_law_part, k_law_part, b_law_part⟩
  have Fu_law_moved_part := fun_mk (st := slaw_moved_part) l_law_moved_part c_law_moved_part k_law_moved_part
  have b_law_moved_part := Fu_law_moved_part.binds (ps := ["_law_group_here", "_law_part_here", "_law_member"]) fun _ _ _ _ _ _ us hl => match us, hl with | [_, _, _], _ => rfl
  have F__law_moved_part : Own P w K mg base 1 "_law_moved_part" 3 r_law_moved_part := ⟨_, _, _, ok_law_moved_part Fu_law_moved_part z_sorted z_tuple, PySem.W.mg_of X Gh a_law_moved_part, k_law_moved_part, b_law_moved_part⟩
  have Fu_law_greatest := fun_mk (st := slaw_greatest) l_law_greatest c_law_greatest k_law_greatest
  have b_law_greatest := Fu_law_greatest.binds (ps := ["_law_size", "_law_prime"]) fun _ _ _ _ _ _ us hl => match us, hl with | [_, _], _ => rfl
  have F__law_greatest : Own P w K mg base 1 "_law_greatest" 2 r_law_greatest := ⟨_, _, _, ok_law_greatest Fu_law_greatest , PySem.W.mg_of X Gh a_law_greatest, k_law_greatest, b_law_greatest⟩
  have Fu_p_size := fun_mk (st := sp_size) l_p_size c_p_size k_p_size
  have b_p_size := Fu_p_size.binds (ps := ["self"]) fun _ _ _ _ _ _ us hl => match us, hl with | [_], _ => rfl
  have Pr_size : OwnProp P w K mg base 1 aG "size" r_p_size := ⟨_, _, _, _, ok_p_size Fu_p_size T z_len, ⟨a_p_size, g_p_size, t_p_size, _, e_p_size⟩, T.cl, b_p_size⟩
  have Fu_p_moves := fun_mk (st := sp_moves) l_p_moves c_p_moves k_p_moves
  have b_p_moves := Fu_p_moves.binds (ps := ["self"]) fun _ _ _ _ _ _ us hl => match us, hl with | [_], _ => rfl
  have Pr_moves : OwnProp P w K mg base 1 aG "moves" r_p_moves := ⟨_, _, _, _, ok_p_moves Fu_p_moves T, ⟨a_p_moves, g_p_moves, t_p_moves, _, e_p_moves⟩, T.cl, b_p_moves⟩
  have Fu_p_all_products := fun_mk (st := sp_all_products) l_p_all_products c_p_all_products k_p_all_products
  have b_p_all_products := Fu_p_all_products.binds (ps := ["self"]) fun _ _ _ _ _ _ us hl => match us, hl with | [_], _ => rfl
  have Pr_all_products : OwnProp P w K mg base 1 aG "all_products" r_p_all_products := ⟨_, _, _, _, ok_p_all_products Fu_p_all_products T, ⟨a_p_all_products, g_p_all_products, t_p_all_products, _, e_p_all_products⟩, T.cl, b_p_all_products⟩
  have Fu_p_all_inverses := fun_mk (st := sp_all_inverses) l_p_all_inverses c_p_all_inverses k_p_all_inverses
  have b_p_all_inverses := Fu_p_all_inverses.binds (ps := ["self"]) fun _ _ _ _ _ _ us hl => match us, hl with | [_], _ => rfl
  have Pr_all_inverses : OwnProp P w K mg base 1 aG "all_inverses" r_p_all_inverses := ⟨_, _, _, _, ok_p_all_inverses Fu_p_all_inverses T, ⟨a_p_all_inverses, g_p_all_inverses, t_p_all_inverses, _, e_p_all_inverses⟩, T.cl, b_p_all_inverses⟩
  have Fu_is_member := fun_mk (st := sis_member) l_is_member c_is_member k_is_member
  have b_is_member := Fu_is_member.binds (ps := ["group", "value"]) fun _ _ _ _ _ _ us hl => match us, hl with | [_, _], _ => rfl
  have F_is_member : Own P w K mg base 4 "is_member" 2 r_is_member := ⟨_, _, _, ok_is_member Fu_is_member F_is_within Pr_size, PySem.W.mg_of X Gh a_is_member, k_is_member, b_is_member⟩
  have Fu_need_group := fun_mk (st := sneed_group) l_need_group c_need_group k_need_group
  have b_need_group := Fu_need_group.binds (ps := ["group"]) fun _ _ _ _ _ _ us hl => match us, hl with | [_], _ => rfl
  have F_need_group : Own P w K mg base 1 "need_group" 1 r_need_group := ⟨_, _, _, ok_need_group Fu_need_group T g_Group z_isinstance, PySem.W.mg_of X Gh a_need_group, k_need_group, b_need_group⟩
  have Fu_need_member := fun_mk (st := sneed_member) l_need_member c_need_member k_need_member
  have b_need_member := Fu_need_member.binds (ps := ["group", "value"]) fun _ _ _ _ _ _ us hl => match us, hl with | [_, _], _ => rfl
  have F_need_member : Own P w K mg base 5 "need_member" 2 r_need_member := ⟨_, _, _, ok_need_member Fu_need_member F_is_member, PySem.W.mg_of X Gh a_need_member, k_need_member, b_need_member⟩
  have Fu_is_group_part := fun_mk (st := sis_group_part) l_is_group_part c_is_group_part k_is_group_part
  have b_is_group_part := Fu_is_group_part.binds (ps := ["group", "value"]) fun _ _ _ _ _ _ us hl => match us, hl with | [_, _], _ => rfl
  have F_is_group_part : Own P w K mg base 5 "is_group_part" 2 r_is_group_part := ⟨_, _, _, ok_is_group_part Fu_is_group_part F_closed_members F_is_member F_need_group Pr_all_products z_all z_isinstance z_tuple, PySem.W.mg_of X Gh a_is_group_part, k_is_group_part, b_is_group_part⟩
  have Fu_need_part := fun_mk (st := sneed_part) l_need_part c_need_part k_need_part
  have b_need_part := Fu_need_part.binds (ps := ["group", "part"]) fun _ _ _ _ _ _ us hl => match us, hl with | [_, _], _ => rfl
  have F_need_part : Own P w K mg base 6 "need_part" 2 r_need_part := ⟨_, _, _, ok_need_part Fu_need_part F_is_group_part, PySem.W.mg_of X Gh a_need_part, k_need_part, b_need_part⟩
  have Fu_moved_members := fun_mk (st := smoved_members) l_moved_members c_moved_members k_moved_members
  have b_moved_members := Fu_moved_members.binds (ps := ["group", "part", "member"]) fun _ _ _ _ _ _ us hl => match us, hl with | [_, _, _], _ => rfl
  have F_moved_members : Own P w K mg base 3 "moved_members" 3 r_moved_members := ⟨_, _, _, ok_moved_members Fu_moved_members Pr_all_inverses Pr_all_products z_sorted z_tuple, PySem.W.mg_of X Gh a_moved_members, k_moved_members, b_moved_members⟩
  have Fu_moved_part := fun_mk (st := smoved_part) l_moved_part c_moved_part k_moved_part
  have b_moved_part := Fu_moved_part.binds (ps := ["group", "part", "member"]) fun _ _ _ _ _ _ us hl => match us, hl with | [_, _, _], _ => rfl
  have F_moved_part : Own P w K mg base 7 "moved_part" 3 r_moved_part := ⟨_, _, _, ok_moved_part Fu_moved_part F_moved_members F_need_member F_need_part, PySem.W.mg_of X Gh a_moved_part, k_moved_part, b_moved_part⟩
  have Fu_need_prime := fun_mk (st := sneed_prime) l_need_prime c_need_prime k_need_prime
  have b_need_prime := Fu_need_prime.binds (ps := ["prime"]) fun _ _ _ _ _ _ us hl => match us, hl with | [_], _ => rfl
  have F_need_prime : Own P w K mg base 3 "need_prime" 1 r_need_prime := ⟨_, _, _, ok_need_prime Fu_need_prime F_is_integer g_PRIMES k_PRIMES, PySem.W.mg_of X Gh a_need_prime, k_need_prime, b_need_prime⟩
  have Fu_greater_part := fun_mk (st := sgreater_part) l_greater_part c_greater_part k_greater_part
  have b_greater_part := Fu_greater_part.binds (ps := ["group", "part", "prime"]) fun _ _ _ _ _ _ us hl => match us, hl with | [_, _, _], _ => rfl
  have F_greater_part : Own P w K mg base 4 "greater_part" 3 r_greater_part := ⟨_, _, _, ok_greater_part Fu_greater_part F_closed_members F_moved_members F_power_of Pr_all_products Pr_size z_range, PySem.W.mg_of X Gh a_greater_part, k_greater_part, b_greater_part⟩
  have Fu_prime_part := fun_mk (st := sprime_part) l_prime_part c_prime_part k_prime_part
  have b_prime_part := Fu_prime_part.binds (ps := ["group", "prime"]) fun _ _ _ _ _ _ us hl => match us, hl with | [_, _], _ => rfl
  have F_prime_part : Own P w K mg base 5 "prime_part" 2 r_prime_part := ⟨_, _, _, ok_prime_part Fu_prime_part F_greater_part F_need_group F_need_prime Pr_size z_len, PySem.W.mg_of X Gh a_prime_part, k_prime_part, b_prime_part⟩
  have Fu_normalizer_of := fun_mk (st := snormalizer_of) l_normalizer_of c_normalizer_of k_normalizer_of
  have b_normalizer_of := Fu_normalizer_of.binds (ps := ["group", "part"]) fun _ _ _ _ _ _ us hl => match us, hl with | [_, _], _ => rfl
  have F_normalizer_of : Own P w K mg base 7 "normalizer_of" 2 r_normalizer_of := ⟨_, _, _, ok_normalizer_of Fu_normalizer_of F_moved_members F_need_part Pr_size z_range z_tuple, PySem.W.mg_of X Gh a_normalizer_of, k_normalizer_of, b_normalizer_of⟩
  have Fu_generated_rounds := fun_mk (st := sgenerated_rounds) l_generated_rounds c_generated_rounds k_generated_rounds
  have b_generated_rounds := Fu_generated_rounds.binds (ps := ["group"]) fun _ _ _ _ _ _ us hl => match us, hl with | [_], _ => rfl
  have F_generated_rounds : Own P w K mg base 3 "generated_rounds" 1 r_generated_rounds := ⟨_, _, _, ok_generated_rounds Fu_generated_rounds F_closed_members F_need_group Pr_all_products Pr_size z_range z_sorted z_tuple, PySem.W.mg_of X Gh a_generated_rounds, k_generated_rounds, b_generated_rounds⟩
  have Fu_is_commuting := fun_mk (st := sis_commuting) l_is_commuting c_is_commuting k_is_commuting
  have b_is_commuting := Fu_is_commuting.binds (ps := ["group", "part"]) fun _ _ _ _ _ _ us hl => match us, hl with | [_, _], _ => rfl
  have F_is_commuting : Own P w K mg base 7 "is_commuting" 2 r_is_commuting := ⟨_, _, _, ok_is_commuting Fu_is_commuting F_need_part Pr_all_products z_all, PySem.W.mg_of X Gh a_is_commuting, k_is_commuting, b_is_commuting⟩
  have Fu_centralizer_of := fun_mk (st := scentralizer_of) l_centralizer_of c_centralizer_of k_centralizer_of
  have b_centralizer_of := Fu_centralizer_of.binds (ps := ["group", "part"]) fun _ _ _ _ _ _ us hl => match us, hl with | [_, _], _ => rfl
  have F_centralizer_of : Own P w K mg base 7 "centralizer_of" 2 r_centralizer_of := ⟨_, _, _, ok_centralizer_of Fu_centralizer_of F_need_part Pr_all_products Pr_size z_all z_range z_tuple, PySem.W.mg_of X Gh a_centralizer_of, k_centralizer_of, b_centralizer_of⟩
  have Fu_law_group := fun_mk (st := slaw_group) l_law_group c_law_group k_law_group
  have b_law_group := Fu_law_group.binds (ps := ["_law_moves"]) fun _ _ _ _ _ _ us hl => match us, hl with | [_], _ => rfl
  have F__law_group : Own P w K mg base 3 "_law_group" 1 r_law_group := ⟨_, _, _, ok_law_group Fu_law_group F__law_behind F__law_made z_dict z_enumerate z_len z_tuple, PySem.W.mg_of X Gh a_law_group, k_law_group, b_law_group⟩
  have Fu_law_ready_moves := fun_mk (st := slaw_ready_moves) l_law_ready_moves c_law_ready_moves k_law_ready_moves
  have b_law_ready_moves := Fu_law_ready_moves.binds (ps := []) fun _ _ _ _ _ _ us hl => match us, hl with | [], _ => rfl
  have F__law_ready_moves : Own P w K mg base 2 "_law_ready_moves" 0 r_law_ready_moves := ⟨_, _, _, ok_law_ready_moves Fu_law_ready_moves F__law_round_moves z_dict z_range z_str, PySem.W.mg_of X Gh a_law_ready_moves, k_law_ready_moves, b_law_ready_moves⟩
  have Fu_law_parts_of_size := fun_mk (st := slaw_parts_of_size) l_law_parts_of_size c_law_parts_of_size k_law_parts_of_size
  have b_law_parts_of_size := Fu_law_parts_of_size.binds (ps := ["_law_group_here", "_law_size"]) fun _ _ _ _ _ _ us hl => match us, hl with | [_, _], _ => rfl
  have F__law_parts_of_size : Own P w K mg base 2 "_law_parts_of_size" 2 r_law_parts_of_size := ⟨_, _, _, ok_law_parts_of_size Fu_law_parts_of_size F__law_part z_len z_range z_sorted, PySem.W.mg_of X Gh a_law_parts_of_size, k_law_parts_of_size, b_law_parts_of_size⟩
  have Fu_law_prime_right := fun_mk (st := slaw_prime_right) l_law_prime_right c_law_prime_right k_law_prime_right
  have b_law_prime_right := Fu_law_prime_right.binds (ps := ["_law_group_here", "_law_told", "_law_prime"]) fun _ _ _ _ _ _ us hl => match us, hl with | [_, _, _], _ => rfl
  have F__law_prime_right : Own P w K mg base 8 "_law_prime_right" 3 r_law_prime_right := ⟨_, _, _, ok_law_prime_right Fu_law_prime_right F__law_greatest F__law_moved_part F__law_part F__law_parts_of_size F_moved_part F_prime_part z_isinstance z_len z_list z_range z_tuple, PySem.W.mg_of X Gh a_law_prime_right, k_law_prime_right, b_law_prime_right⟩
  have Fu_self_settle := fun_mk (st := sself_settle) l_self_settle c_self_settle k_self_settle
  have b_self_settle := Fu_self_settle.binds (ps := ["self", "moves"]) fun _ _ _ _ _ _ us hl => match us, hl with | [_, _], _ => rfl
  have Se_settle : OwnSelf P w K mg base 2 aG "_settle" r_self_settle := ⟨_, _, _, ok_self_settle Fu_self_settle F_joined T z_enumerate z_len z_range z_tuple, ⟨a_self_settle, i_self_settle, k_self_settle⟩, T.cl, b_self_settle⟩
  have Fu_self_init := fun_mk (st := sself_init) l_self_init c_self_init k_self_init
  have b_self_init := Fu_self_init.binds (ps := ["self", "moves"]) fun _ _ _ _ _ _ us hl => match us, hl with | [_, _], _ => rfl
  have Init : OwnInit P w K mg base 6 aG "Group" r_self_init := ⟨_, _, _, ok_self_init Fu_self_init F_all_renamings F_are_moves Se_settle, ⟨mk, a_self_init, i_self_init, kc⟩, gG, b_self_init⟩
  exact ⟨⟨F_is_short, F_is_integer, F_is_within, F_joined, F_all_renamings, F_power_of, F_closed_members, F_is_renaming, F_are_moves, F__law_behind, F__law_made, F__law_round_moves, F__law_part, F__law_moved_part, F__law_greatest, Pr_size, Pr_moves, Pr_all_products, Pr_all_inverses, F_is_member, F_need_group, F_need_member, F_is_group_part, F_need_part, F_moved_members, F_moved_part, F_need_prime, F_greater_part, F_prime_part, F_normalizer_of, F_generated_rounds, F_is_commuting, F_centralizer_of, F__law_group, F__law_ready_moves, F__law_parts_of_size, F__law_prime_right, Se_settle, Init⟩⟩
end K2

namespace K2
open PySem PySem.Spec PyProof.Rows L2 DL DN
section
variable {P : Program} {w : World} {K : PySem.W.Frag} {mg : Str → Option Value} {base : Heap}
abbrev slaw_dice : Stmt := top 39
abbrev slaw_roll : Stmt := top 40
abbrev slaw_one_of : Stmt := top 41
theorem sclaw_dice : FnScope ["_law_script", "_law_at", "_law_cell", "_law_great", "_law_left", "_law_mixed"] ["_law_script", "_law_at"] (defScope slaw_dice) := ⟨rfl, rfl, rfl, by decide +kernel, rfl, by decide +kernel, by decide +kernel⟩
theorem sclaw_roll : FnScope ["_law_dice_here", "_law_total", "_law_size", "_law_drawn", "_law_one", "_law_two"] ["_law_dice_here", "_law_total"] (defScope slaw_roll) := ⟨rfl, rfl, rfl, by decide +kernel, rfl, by decide +kernel, by decide +kernel⟩
theorem sclaw_one_of : FnScope ["_law_dice_here", "_law_items"] ["_law_dice_here", "_law_items"] (defScope slaw_one_of) := ⟨rfl, rfl, rfl, by decide +kernel, rfl, by decide +kernel, by decide +kernel⟩
theorem ok_law_dice {f : Addr} {fd : FuncData} (F : Fun K "_law_dice" "_law_dice" slaw_dice f fd) (z_len : mg "len" = none) (z_int : mg "int" = none) (z_abs : mg "abs" = none) : FnOk P w K mg base CX0 1 f fd ["_law_script", "_law_at"] (spDice K) := by
  have sc := sclaw_dice
  refine F.ok sc (fun vs H Q E h => by obtain ⟨b, ns, i, rfl, _⟩ := h; rfl) (fun cdv A outer s H vs Q E hr h => ⟨t_dice K, ?_, pure_dice vs H Q E h⟩)
  exact pss_cons (ps_set (i := 2) sc.nd rfl (.inl rfl) (pe_op op_add (pe_op op_mul pe_int (pv 1)) pe_int)) <|
    pss_cons (ps_if (pt_cmpR op_lt (pv 1) (pe_callB hLenQ rfl z_len (by decide +kernel) (pa_cons (pv 0) pa_nil)) (nomark _)) (pss_one (ps_set (i := 2) sc.nd rfl (.inl rfl) (pe_ix ix_seq (pv 0) (pv 1) (fun _ _ => rfl)))) pss_nil) <|
    pss_cons (ps_set (i := 3) sc.nd rfl (.inl rfl) (pe_op op_mod (pe_callTy hInt1 rfl z_int (by decide +kernel) (pa_cons (pe_callB hAbs rfl z_abs (by decide +kernel) (pa_cons (pv 2) pa_nil)) pa_nil)) (pe_op op_powW (pe_op op_powW pe_int pe_int) pe_int))) <|
    pss_cons (ps_set (i := 4) sc.nd rfl (.inl rfl) (pe_op op_fdivW (pv 3) (pe_op op_powW pe_int pe_int))) <|
    pss_cons (ps_set (i := 5) sc.nd rfl (.inl rfl) (pe_op op_add (pe_op op_add (pe_op op_add (pe_op op_mul (pe_op op_mod (pv 3) pe_int) pe_int) (pe_op op_mul pe_int (pv 1))) (pe_op op_mul pe_int (pe_callTy hInt1 rfl z_int (by decide +kernel) (pa_cons (pe_cmpR op_lt (pv 2) pe_int (nomark _)) pa_nil)))) pe_int)) <|
    pss_one (ps_ret (pe_lst (pa_cons (pv 4) (pa_cons (pe_op op_mod (pv 5) pe_int) (pa_cons pe_int pa_nil)))))
theorem ok_law_roll {f : Addr} {fd : FuncData} (F : Fun K "_law_roll" "_law_roll" slaw_roll f fd) (z_int : mg "int" = none) : FnOk P w K mg base CX0 1 f fd ["_law_dice_here", "_law_total"] spRoll := by
  have sc := sclaw_roll
  refine F.ok sc (fun vs H Q E h => by obtain ⟨a, n, rfl, _⟩ := h; rfl) (fun cdv A outer s H vs Q E hr h => ⟨t_roll K, ?_, pure_roll vs H Q E h⟩)
  exact pss_cons (ps_set (i := 2) sc.nd rfl (.inl rfl) (pe_callTy hInt1 rfl z_int (by decide +kernel) (pa_cons (pv 1) pa_nil))) <|
    pss_cons (ps_if (pt_cmpR op_gt (pe_ix ix_seq (pv 0) pe_int (fun _ _ => rfl)) pe_int (nomark _))
      (pss_cons (ps_set (i := 3) sc.nd rfl (.inl rfl) (pe_op op_mod (pe_ix ix_seq (pv 0) pe_int (fun _ _ => rfl)) (pv 2))) <|
        pss_cons (ps_asg (pe_op op_fdiv (pe_ix ix_seq (pv 0) pe_int (fun _ _ => rfl)) (pv 2)) (pg_sub (pv 0) pe_int set_list)) <|
        pss_one (ps_ret (pe_callTy hInt1 rfl z_int (by decide +kernel) (pa_cons (pv 3) pa_nil)))) pss_nil) <|
    pss_cons (ps_asg (pe_op op_add (pe_ix ix_seq (pv 0) pe_int (fun _ _ => rfl)) pe_int) (pg_sub (pv 0) pe_int set_list)) <|
    pss_cons (ps_set (i := 4) sc.nd rfl (.inl rfl) (pe_op op_mod (pe_op op_add (pe_ix ix_seq (pv 0) pe_int (fun _ _ => rfl)) (pe_op op_mul pe_int (pe_ix ix_seq (pv 0) pe_int (fun _ _ => rfl)))) pe_int)) <|
    pss_cons (ps_set (i := 5) sc.nd rfl (.inl rfl) (pe_op op_add (pe_op op_mul (pe_op op_mod (pe_op op_mul (pv 4) (pv 4)) pe_int) (pv 4)) (pe_op op_mul pe_int (pe_ix ix_seq (pv 0) pe_int (fun _ _ => rfl))))) <|
    pss_cons (ps_set (i := 5) sc.nd rfl (.inl rfl) (pe_op op_mod (pv 5) pe_int)) <|
    pss_one (ps_ret (pe_callTy hInt1 rfl z_int (by decide +kernel) (pa_cons (pe_op op_mod (pe_op op_fdiv (pv 5) pe_int) (pv 2)) pa_nil)))
/-- a def with a promise of its own -/
structure OwnS (P : Program) (w : World) (K : PySem.W.Frag) (mg : Str → Option Value) (base : Heap) (lvl : Nat) (x : Str) (sp : Sp) where
  f : Addr
  fd : FuncData
  ps : List Str
  F : FnOk P w K mg base CX0 lvl f fd ps sp
  g : mg x = some (.ref f)
  k : PySem.W.keepIn K (.ref f) = true
  b : Binds K fd ps []
theorem ok_law_one_of {f : Addr} {fd : FuncData} (F : Fun K "_law_one_of" "_law_one_of" slaw_one_of f fd) (Fr : OwnS P w K mg base 1 "_law_roll" spRoll) (z_len : mg "len" = none) : FnOk P w K mg base CX0 2 f fd ["_law_dice_here", "_law_items"] (spOne K) := by
  have sc := sclaw_one_of
  refine F.ok sc (fun vs H Q E h => by obtain ⟨a, b, xs, rfl, _⟩ := h; rfl) (fun cdv A outer s H vs Q E hr h => ⟨_, ?_, pure_one vs H Q E h⟩)
  exact pss_one (ps_ret (pe_ix ix_seq (pv 1) (pe_call Fr.F (hr.mono (by decide)) rfl Fr.g Fr.k Fr.b .nil pass0 (pa_cons (pv 0) (pa_cons (pe_callB hLenQ rfl z_len (by decide +kernel) (pa_cons (pv 1) pa_nil)) pa_nil))) (fun _ _ => rfl)))
end
end K2

namespace K2
open PySem PySem.Spec PyProof.Rows L2 DL DN
/-- a list that is being made stands aside -/
theorem hide_upd {A : Addr} {H : Hp} {o : HO} (h : H A = some o) : L2.upd (hideH A H) A o = H := by
  funext b
  by_cases hb : b = A
  · subst hb; rw [upd_same, h]
  · rw [upd_ne hb]; unfold hideH; rw [if_neg hb]
theorem DR.aside {K : PySem.W.Frag} {F0 H0 F H : Hp} {a A : Addr} {σ : L2.St} {ρ : DS} {o : HO} (S : DR K F0 H0 a F (hideH A H) σ ρ) (h : H A = some o) : DR K F0 H0 a F H σ ρ := by
  have := S.up (Ext.temp S.s (p := A) (o := o) hide_same)
  rw [hide_upd h] at this
  exact this
theorem DR.inn {K : PySem.W.Frag} {F0 H0 F H : Hp} {a A : Addr} {σ : L2.St} {ρ : DS} {o : HO} (S : DR K F0 H0 a F (hideH A H) σ ρ) (h : H A = some o) : DR K F0 H0 a (L2.upd F A o) H σ ρ := by
  have hF : F A = none := none_of S.s hide_same
  have := S.up (Ext.laid S.s (p := A) (o := o) hide_same)
  rw [hide_upd h] at this
  exact this
def okMs (n : Int) (ms : List Int) : Prop := ms.length < 3 ∧ ∀ r ∈ ms, 0 ≤ r ∧ r < n
def lI (ms : List Int) : D := .lst (ms.map D.int)
def PrePD (ds : List D) : Prop := ∃ G n, ds = [G] ∧ fGetI G (.str "size") = some (.int n) ∧ 0 < n ∧ n < 1073741824 ∧ ∀ ms, okMs n ms → ∃ q, r_law_part [G, lI ms] = some q
def RelPD (ds : List D) (d : D) : Prop := ∃ G n ms, ds = [G] ∧ fGetI G (.str "size") = some (.int n) ∧ okMs n ms ∧ r_law_part [G, lI ms] = some d
abbrev spPD (K : PySem.W.Frag) : Sp := spW K PrePD RelPD
def t_pd (K : PySem.W.Frag) : TS := tRet (tCall (spD K 2 r_law_part) [] E0 (tCons (tVar 1) (tCons (tLc (iRng1 (tCons (tCall spRoll [] E0 (tCons (tVar 0) (tCons (tC (.int 3)) (tNil)))) (tNil))) (gName 2) (tYes) (tCall spRoll [] E0 (tCons (tVar 0) (tCons (tDGet (tVar 1) (tC (.str "size"))) (tNil)))) [2]) (tNil))))
theorem pure_pd {K : PySem.W.Frag} (vs : List V) (H : Hp) (Q : VK) (E : XK) (h : spPD K vs H Q E) :
    t_pd K { nx := fun _ H' => Q .non H', rt := Q } (start ["_law_dice_here", "_law_group_here", "_law_turn"] vs) H := by
  obtain ⟨a, ws, F, ds, rfl, dA, s, hF, rl, ⟨G, n, rfl, hG, n0, n1, hq⟩, k⟩ := h
  cases rl with
  | cons rG rl =>
  cases rl
  rename_i g
  have S0 : DR K F H a F H (L2.start ["_law_dice_here", "_law_group_here", "_law_turn"] [.ref a, g]) [.fro G, .unk] := DR.start (N := ["_law_dice_here", "_law_group_here", "_law_turn"]) s hF dA (.cons rG .nil)
  have e0 : (L2.start ["_law_dice_here", "_law_group_here", "_law_turn"] [V.ref a, g]) = [some (.ref a), some g, none] := rfl
  rw [e0] at S0 ⊢
  refine ⟨_, rfl, _, rfl, ?_⟩
  dsimp only [tCons, tNil, tC]
  refine S0.roll (n := 3) (by decide) (by decide) fun t H1 t0 t1 S1 => ⟨t, rfl, by omega, by omega, fun A hA => ?_⟩
  have hFA : F A = none := none_of S1.s hA
  have e1 : hideH A (L2.upd H1 A (.lst [])) = H1 := by
    funext b
    by_cases hb : b = A
    · subst hb; rw [hide_same, hA]
    · unfold hideH; rw [if_neg hb, upd_ne hb]
  refine ⟨fun i m H' => m = t.toNat - i ∧ i ≤ t.toNat ∧ ∃ ms : List Int, ms.length = i ∧ (∀ r ∈ ms, 0 ≤ r ∧ r < n) ∧ H' A = some (.lst (ms.map V.int)) ∧ DR K F H a F (hideH A H') [some (.ref a), some g, none] [.fro G, .unk],
    ⟨t.toNat, by simp, Nat.zero_le _, [], rfl, by simp, upd_same, by rw [e1]; exact S1⟩, ?_⟩
  rintro i m H2 ⟨rfl, hi, ms, hl, hr, hA2, S2⟩
  have it := its_range (K := K) (F := F) 0 t.toNat
  by_cases hlt : i < t.toNat
  · refine .inr ⟨it.go i F H2 (Same.refl _) (DR.aside S2 hA2).s (by rw [rangeD_len]; exact hlt), ?_⟩
    refine ⟨fun H' => ∃ ms : List Int, ms.length = i + 1 ∧ (∀ r ∈ ms, 0 ≤ r ∧ r < n) ∧ H' A = some (.lst (ms.map V.int)) ∧ DR K F H a F (hideH A H') [some (.ref a), some g, none] [.fro G, .unk], fun H' z => ⟨_, by omega, rfl, hlt, z⟩, fun x H3 y => ?_⟩
    obtain ⟨rfl, rfl⟩ := y
    refine ⟨rfl, ?_⟩
    dsimp only [tYes]
    rw [if_pos rfl]
    have S2' := DR.aside S2 hA2
    refine ⟨_, rfl, _, rfl, ?_⟩
    obtain ⟨o, hg, hz⟩ : ∃ o, fGet G (.str "size") = some o ∧ id o = some (.int n) := Option.bind_eq_some_iff.mp (show (fGet G (.str "size")).bind id = some (.int n) from hG)
    obtain ⟨b, w, hgb, gd, _, hw⟩ := get_ok S2'.s (.inl rG) (.inl (.str "size")) hg
    have hw2 : ∃ v, w = some v ∧ v = V.int n := by
      rcases hw with ⟨z', v, e4, e5, r⟩ | ⟨e4, _⟩
      · subst e4; cases hz; exact ⟨v, e5, rp_int r⟩
      · subst e4; cases hz
    obtain ⟨_, rfl, rfl⟩ := hw2
    refine ⟨b, _, hgb, gd, ?_⟩
    dsimp only [tCons, tNil, tC]
    have hAa : A ≠ a := fun z => by subst z; have := S2.at; obtain ⟨l, m, k, h⟩ := this; rw [hide_same] at h; cases h
    refine ⟨a, n, rfl, S2'.at, n0, n1, fun r H4 r0 r1 d4 o4 => ?_⟩
    have hA4 : H4 A = some (.lst (ms.map V.int)) := by rw [o4 A hAa]; exact hA2
    refine ⟨_, hA4, by rw [List.length_map]; have := (by decide : 3 ≤ sizeLine); omega, ms ++ [r], by rw [List.length_append]; simp; omega, fun r' h' => ?_, ?_, ?_⟩
    · rcases List.mem_append.mp h' with h' | h'
      · exact hr r' h'
      · rw [List.mem_singleton] at h'; subst h'; exact ⟨r0, r1⟩
    · rw [upd_same, List.map_append]; rfl
    · have e4 : hideH A (L2.upd H4 A (.lst (ms.map V.int ++ [V.int r]))) = hideH A H4 := by
        funext b
        by_cases hb : b = A
        · subst hb; rw [hide_same, hide_same]
        · unfold hideH; rw [if_neg hb, if_neg hb, upd_ne hb]
      rw [e4]
      refine S2.off (fun b hb => ?_) ?_
      · unfold hideH
        by_cases hb' : b = A
        · rw [if_pos hb', if_pos hb']
        · rw [if_neg hb', if_neg hb', o4 b hb]
      · obtain ⟨l, m, k, d4⟩ := d4
        exact ⟨l, m, k, hide_of (fun z => hAa z.symm) d4⟩
  · have hi' : ms.length = t.toNat := by omega
    refine .inl ⟨by show t.toNat ≤ i; omega, ?_⟩
    have S3 := DR.inn S2 hA2
    obtain ⟨q, hq1⟩ := hq ms ⟨by omega, hr⟩
    show spD K 2 r_law_part [g, .ref A] H2 _ _
    refine ⟨_, [G, lI ms], q, S3.s, .cons (rG.mono (fun b u z => ?_)) (.cons (.obj upd_same (.lst ?_)) .nil), rfl, hq1, fun v F' H' x r => ?_⟩
    · rw [upd_ne (fun z' => by subst z'; rw [hFA] at z; cases z)]; exact z
    · exact rpl_ints ms
    · have S5 := S3.up x
      exact k q v F' H' ⟨G, n, ms, rfl, hG, ⟨by omega, hr⟩, hq1⟩ S5.fin S5.at S5.fr r
end K2

namespace K2
open PySem PySem.Spec PyProof.Rows L2 DL DN
def mgd : M Fl := mSeq (mOwn 2 (mDisp ((mC (.str "v4"), mC (.int 4)) :: (mC (.str "c2c4"), mC (.int 8)) :: (mC (.str "c3c3"), mC (.int 9)) :: (mC (.str "s3"), mC (.int 6)) :: (mC (.str "d4"), mC (.int 8)) :: (mC (.str "q8"), mC (.int 8)) :: (mC (.str "a4"), mC (.int 12)) :: (mC (.str "d5"), mC (.int 10)) :: (mC (.str "d6"), mC (.int 12)) :: []))) (mSeq (mAsg (mLc [3] (mItL (mB (f1 fSortedKS) (mCons (mCall 0 r_law_ready_moves (mNil)) (mNil)))) (stN 3) (mBool (m2 (fB fun i j => decide (i ≤ j)) (m3 fGet2 (mAny 2) (mAny 3) (mC (.int 0))) (mAny 1))) (mFro 3)) (stN 4)) (mAsg (mLc [3] (mItL (mFro 4)) (stN 3) (mOr (mBool (m2 (fun e d => fHas false d e) (mAny 3) (mAny 2))) (mBool (m2 (fB fun i j => decide (i ≤ j)) (mB (f1 fInt) (mCons (m2 fCutS (mFro 3) (mC (.int 1))) (mNil))) (mAny 1)))) (mFro 3)) (stN 5)))
def tgd (K : PySem.W.Frag) : TS := tSeq (tAsg (tDisp ((tC (.str "v4"), tC (.int 4)) :: (tC (.str "c2c4"), tC (.int 8)) :: (tC (.str "c3c3"), tC (.int 9)) :: (tC (.str "s3"), tC (.int 6)) :: (tC (.str "d4"), tC (.int 8)) :: (tC (.str "q8"), tC (.int 8)) :: (tC (.str "a4"), tC (.int 12)) :: (tC (.str "d5"), tC (.int 10)) :: (tC (.str "d6"), tC (.int 12)) :: [])) (gName 2)) (tSeq (tAsg (tLc (iList K (tCB (rSortKS) (tCons (tCall (spD K 0 r_law_ready_moves) [] E0 (tNil)) (tNil)))) (gName 3) (tTest (tOp (rI0 fun i j => V.bl (decide (i ≤ j))) (tDGet2 (tVar 2) (tVar 3) (tC (.int 0))) (tVar 1))) (tVar 3) [3]) (gName 4)) (tAsg (tLc (iList K (tVar 4)) (gName 3) (tOr (tB (tDIn (tVar 3) (tVar 2))) (tTest (tOp (rI0 fun i j => V.bl (decide (i ≤ j))) (tCB (rIntS) (tCons (tSl rSlS (tVar 3) (tPart (tC (.int 1))) (fun _ H Q => Q none H)) (tNil))) (tVar 1)))) (tVar 3) [3]) (gName 5)))
theorem xgd {K : PySem.W.Frag} (F0 H0 : Hp) : Sx ⟨K, F0, H0⟩ (tgd K) mgd := sx_seq (sx_own 2 (ox_disp (.cons (ex_str "v4") (ex_int 4) (.cons (ex_str "c2c4") (ex_int 8) (.cons (ex_str "c3c3") (ex_int 9) (.cons (ex_str "s3") (ex_int 6) (.cons (ex_str "d4") (ex_int 8) (.cons (ex_str "q8") (ex_int 8) (.cons (ex_str "a4") (ex_int 12) (.cons (ex_str "d5") (ex_int 10) (.cons (ex_str "d6") (ex_int 12) (.nil)))))))))))) (sx_seq (sx_asg ((ox_lc (wx_list ((ox_cb bSortKS (ab_cons ((ex_call (ax_nil)).b) (ab_nil))).x)) (gw_name 3) (tx_test (ex_op op_rB ((ex_dget2 (bx_var 2) (bx_var 3) (ex_int 0)).b) (bx_var 1)).b) (ex_var 3)).x) (gx_name 4)) (sx_asg ((ox_lc (wx_list (ex_var 4)) (gw_name 3) (tx_or (tx_b (ex_din (bx_var 3) (bx_var 2)).b) (tx_test (ex_op op_rB ((ex_cb bIntS (ab_cons ((ex_cutS (ex_var 3) (ex_int 1)).b) (ab_nil))).b) (bx_var 1)).b)) (ex_var 3)).x) (gx_name 5)))
def t_gd (K : PySem.W.Frag) : TS := tSeq (tAsg (tDisp ((tC (.str "v4"), tC (.int 4)) :: (tC (.str "c2c4"), tC (.int 8)) :: (tC (.str "c3c3"), tC (.int 9)) :: (tC (.str "s3"), tC (.int 6)) :: (tC (.str "d4"), tC (.int 8)) :: (tC (.str "q8"), tC (.int 8)) :: (tC (.str "a4"), tC (.int 12)) :: (tC (.str "d5"), tC (.int 10)) :: (tC (.str "d6"), tC (.int 12)) :: [])) (gName 2)) (tSeq (tAsg (tLc (iList K (tCB (rSortKS) (tCons (tCall (spD K 0 r_law_ready_moves) [] E0 (tNil)) (tNil)))) (gName 3) (tTest (tOp (rI0 fun i j => V.bl (decide (i ≤ j))) (tDGet2 (tVar 2) (tVar 3) (tC (.int 0))) (tVar 1))) (tVar 3) [3]) (gName 4)) (tSeq (tAsg (tLc (iList K (tVar 4)) (gName 3) (tOr (tB (tDIn (tVar 3) (tVar 2))) (tTest (tOp (rI0 fun i j => V.bl (decide (i ≤ j))) (tCB (rIntS) (tCons (tSl rSlS (tVar 3) (tPart (tC (.int 1))) (fun _ H Q => Q none H)) (tNil))) (tVar 1)))) (tVar 3) [3]) (gName 5)) (tRet (tCall (spD K 1 r_law_group) [] E0 (tCons (tDGet (tCall (spD K 0 r_law_ready_moves) [] E0 (tNil)) (tCall (spOne K) [] E0 (tCons (tVar 0) (tCons (tVar 5) (tNil))))) (tNil))))))
def rgd (K : PySem.W.Frag) : TS := tRet (tCall (spD K 1 r_law_group) [] E0 (tCons (tDGet (tCall (spD K 0 r_law_ready_moves) [] E0 (tNil)) (tCall (spOne K) [] E0 (tCons (tVar 0) (tCons (tVar 5) (tNil))))) (tNil)))
def mr2 : M Fl := mAsg (mTup (mCons (mF r_self_init (m2 fGetI (mAny 1) (mC (.str "moves")))) (mCons (m2 fGetI (mAny 1) (mC (.str "table"))) (mCons (m2 fGetI (mAny 1) (mC (.str "size"))) (mNil))))) (stTup 3 (stCons (stN 2) (stCons (stN 3) (stCons (stN 4) (stNil)))))
def tr2 (K : PySem.W.Frag) : TS := tAsg (tTup (tCons (tMake aG (spSelf K aG r_self_init) [] E0 (tCons (tDGet (tVar 1) (tC (.str "moves"))) tNil)) (tCons (tDGet (tVar 1) (tC (.str "table"))) (tCons (tDGet (tVar 1) (tC (.str "size"))) (tNil))))) (gTup K 3 (gCons (gName 2) (gCons (gName 3) (gCons (gName 4) (gNil)))))
theorem xr2 {K : PySem.W.Frag} (F0 H0 : Hp) : Sx ⟨K, F0, H0⟩ (tr2 K) mr2 := sx_asg (ex_tup (ax_cons ((ox_make (ex_dget (bx_var 1) ((ex_str "moves").b))).x) (ax_cons (ex_dget (bx_var 1) ((ex_str "table").b)) (ax_cons (ex_dget (bx_var 1) ((ex_str "size").b)) (ax_nil))))) (gx_tup (gsx_cons (gx_name 2) (gsx_cons (gx_name 3) (gsx_cons (gx_name 4) (gsx_nil)))))
def mpr : M Fl := mIf (mNot (mBool (mCall 3 r_law_prime_right (mCons (mFro 1) (mCons (mFro 2) (mCons (mFro 5) (mNil))))))) (mRet (mC (.bl false))) (mNext)
def tpr (K : PySem.W.Frag) : TS := tIfS (tNot (tB (tCall (spD K 3 r_law_prime_right) [] E0 (tCons (tVar 1) (tCons (tVar 2) (tCons (tVar 5) (tNil))))))) (tRet (tC (.bl false))) (tNext)
theorem xpr {K : PySem.W.Frag} (F0 H0 : Hp) : Sx ⟨K, F0, H0⟩ (tpr K) mpr := sx_if (tx_not (tx_b ((ex_call (ax_cons (ex_var 1) (ax_cons (ex_var 2) (ax_cons (ex_var 5) (ax_nil))))).b))) (sx_ret (ex_bl false)) (sx_next)
def mbd : M Fl := mSeq (mOwn 9 (mLc [8] (mRng (mCons (mAny 4) (mNil))) (stN 8) (mBool (m2 (fEq false) (mCall 3 r_law_moved_part (mCons (mFro 1) (mCons (mFro 7) (mCons (mFro 8) (mNil))))) (mAny 7))) (mFro 8))) (mSeq (mOwn 11 (mLc [8] (mRng (mCons (mAny 4) (mNil))) (stN 8) (mBool (m2 (fEq false) (mLc [10] (mItT (mFro 7)) (stN 10) (mBool (m2 (fEq true) (m2 fIx (m2 fIx (mAny 3) (mAny 8)) (mAny 10)) (m2 fIx (m2 fIx (mAny 3) (mAny 10)) (mAny 8)))) (mC (.int 1))) (mLst (mNil)))) (mFro 8))) (mSeq (mIf (mOr (mBool (m2 (fEq true) (mCall 2 r_normalizer_of (mCons (mFro 2) (mCons (mFro 7) (mNil)))) (mB (f1 fun d => (lstD d).map D.tup) (mCons (mAny 9) (mNil))))) (mBool (m2 (fEq true) (mCall 2 r_centralizer_of (mCons (mFro 2) (mCons (mFro 7) (mNil)))) (mB (f1 fun d => (lstD d).map D.tup) (mCons (mAny 11) (mNil)))))) (mRet (mC (.bl false))) (mNext)) (mIf (mBool (m2 (fEq true) (mCall 2 r_is_commuting (mCons (mFro 2) (mCons (mFro 7) (mNil)))) (m2 (fEq false) (mLc [12] (mItT (mFro 7)) (stN 12) (mBool (m2 (fIn true) (mAny 12) (mAny 11))) (mFro 12)) (mLst (mNil))))) (mRet (mC (.bl false))) (mNext))))
def tbd (K : PySem.W.Frag) : TS := tSeq (tAsg (tLc (iRng1 (tCons (tVar 4) (tNil))) (gName 8) (tTest (tOp (rEqD K) (tCall (spD K 3 r_law_moved_part) [] E0 (tCons (tVar 1) (tCons (tVar 7) (tCons (tVar 8) (tNil))))) (tVar 7))) (tVar 8) [8]) (gName 9)) (tSeq (tAsg (tLc (iRng1 (tCons (tVar 4) (tNil))) (gName 8) (tTest (tOp (rEqD K) (tLc (iTup K (tVar 7)) (gName 10) (tTest (tOp (rNeD K) (tOp (rIx K) (tOp (rIx K) (tVar 3) (tVar 8)) (tVar 10)) (tOp (rIx K) (tOp (rIx K) (tVar 3) (tVar 10)) (tVar 8)))) (tC (.int 1)) [10]) (tLst (tNil)))) (tVar 8) [8]) (gName 11)) (tSeq (tIfS (tOr (tTest (tOp (rNeD K) (tCall (spD K 2 r_normalizer_of) [] E0 (tCons (tVar 2) (tCons (tVar 7) (tNil)))) (tCB (rTupQ K) (tCons (tVar 9) (tNil))))) (tTest (tOp (rNeD K) (tCall (spD K 2 r_centralizer_of) [] E0 (tCons (tVar 2) (tCons (tVar 7) (tNil)))) (tCB (rTupQ K) (tCons (tVar 11) (tNil)))))) (tRet (tC (.bl false))) (tNext)) (tIfS (tTest (tOp (rNeD K) (tCall (spD K 2 r_is_commuting) [] E0 (tCons (tVar 2) (tCons (tVar 7) (tNil)))) (tOp (rEqD K) (tLc (iTup K (tVar 7)) (gName 12) (tTest (tOp (rNotInD K) (tVar 12) (tVar 11))) (tVar 12) [12]) (tLst (tNil))))) (tRet (tC (.bl false))) (tNext))))
theorem xbd {K : PySem.W.Frag} (F0 H0 : Hp) : Sx ⟨K, F0, H0⟩ (tbd K) mbd := sx_seq (sx_own 9 (ox_lc (wx_range1 (ab_cons (bx_var 4) (ab_nil)) (mCons_len (mNil_len))) (gw_name 8) (tx_test (ex_op op_eqB ((ex_call (ax_cons (ex_var 1) (ax_cons (ex_var 7) (ax_cons (ex_var 8) (ax_nil))))).b) (bx_var 7)).b) (ex_var 8))) (sx_seq (sx_own 11 (ox_lc (wx_range1 (ab_cons (bx_var 4) (ab_nil)) (mCons_len (mNil_len))) (gw_name 8) (tx_test (ex_op op_eqB ((ox_lc (wx_tup (ex_var 7)) (gw_name 10) (tx_test (ex_op op_neB ((ex_ix ((ex_ix (bx_var 3) (bx_var 8)).b) (bx_var 10)).b) ((ex_ix ((ex_ix (bx_var 3) (bx_var 10)).b) (bx_var 8)).b)).b) (ex_int 1)).b) ((ox_lst (ax_nil)).b)).b) (ex_var 8))) (sx_seq (sx_if (tx_or (tx_test (ex_op op_neB ((ex_call (ax_cons (ex_var 2) (ax_cons (ex_var 7) (ax_nil)))).b) ((ex_cb bTupQ (ab_cons (bx_var 9) (ab_nil))).b)).b) (tx_test (ex_op op_neB ((ex_call (ax_cons (ex_var 2) (ax_cons (ex_var 7) (ax_nil)))).b) ((ex_cb bTupQ (ab_cons (bx_var 11) (ab_nil))).b)).b)) (sx_ret (ex_bl false)) (sx_next)) (sx_if (tx_test (ex_op op_neB ((ex_call (ax_cons (ex_var 2) (ax_cons (ex_var 7) (ax_nil)))).b) ((ex_op op_eqB ((ox_lc (wx_tup (ex_var 7)) (gw_name 12) (tx_test (ex_op op_ninB (bx_var 12) (bx_var 11)).b) (ex_var 12)).b) ((ox_lst (ax_nil)).b)).b)).b) (sx_ret (ex_bl false)) (sx_next))))
def men : M Fl := mSeq (mOwn 13 ((fun _ => some (.dct true [] [])))) (mSeq (mFor (mRng (mCons (mAny 4) (mNil))) (stN 14) (mPut 13 (mCall 2 r_law_part (mCons (mFro 1) (mCons (mLst (mCons (mFro 14) (mNil))) (mNil)))) (mC (.int 1)))) (mRet (m2 (fEq false) (mCall 1 r_generated_rounds (mCons (mFro 2) (mNil))) (mB (f1 fun d => (lstD d).map D.tup) (mCons (mB (f1 fSortedTD) (mCons (mAny 13) (mNil))) (mNil))))))
def ten (K : PySem.W.Frag) : TS := tSeq (tAsg (tDNewT) (gName 13)) (tSeq (tFor (iRng1 (tCons (tVar 4) (tNil))) (gName 14) (sDPut (tVar 13) (tCall (spD K 2 r_law_part) [] E0 (tCons (tVar 1) (tCons (tLst (tCons (tVar 14) (tNil))) (tNil)))) (tC (.int 1)))) (tRet (tOp (rEqD K) (tCall (spD K 1 r_generated_rounds) [] E0 (tCons (tVar 2) (tNil))) (tCB (rTupQ K) (tCons (tCB (rSortedTD K) (tCons (tVar 13) (tNil))) (tNil))))))
theorem xen {K : PySem.W.Frag} (F0 H0 : Hp) : Sx ⟨K, F0, H0⟩ (ten K) men := sx_seq (sx_own 13 (ox_dnewT)) (sx_seq (sx_for (wx_range1 (ab_cons (bx_var 4) (ab_nil)) (mCons_len (mNil_len))) (gx_name 14) (sx_put 13 (ex_call (ax_cons (ex_var 1) (ax_cons ((ox_lst (ax_cons (ex_var 14) (ax_nil))).x) (ax_nil)))) (ex_int 1))) (sx_ret (ex_op op_eqB ((ex_call (ax_cons (ex_var 2) (ax_nil))).b) ((ex_cb bTupQ (ab_cons ((ox_cb co_sortedTD (ab_cons (bx_var 13) (ab_nil))).b) (ab_nil))).b))))
def ready : D := (r_law_ready_moves []).getD .non
theorem ready_is : r_law_ready_moves [] = some ready := by
  unfold ready
  have h : (r_law_ready_moves []).isSome = true := by decide +kernel
  cases q : r_law_ready_moves [] with
  | none => rw [q] at h; cases h
  | some d => rfl
def names : List D := ["a4", "c1", "c2", "c2c4", "c3", "c3c3", "c4", "c5", "c6", "c7", "c8", "d4", "d5", "d6", "q8", "s3", "v4"].map fun x => .str (Str.ofString x)
def RelGD (d : D) : Prop := ∃ e mv, e ∈ names ∧ fGet ready e = some (some mv) ∧ r_law_group [mv] = some d
def spGD (K : PySem.W.Frag) : Sp := spW K (fun ds => ds = [.int 12]) (fun _ d => RelGD d)
def tL1 (K : PySem.W.Frag) : TS := (tFor (iTup K (tTup (tCons (tC (.int 2)) (tCons (tC (.int 3)) (tCons (tCall (spOne K) [] E0 (tCons (tVar 0) (tCons (tLst (tCons (tC (.int 5)) (tCons (tC (.int 7)) (tCons (tC (.int 11)) (tCons (tC (.int 13)) (tCons (tC (.int 17)) (tCons (tC (.int 19)) (tCons (tC (.int 23)) (tCons (tC (.int 29)) (tCons (tC (.int 31)) (tNil))))))))))) (tNil)))) (tNil)))))) (gName 5) (tIfS (tNot (tB (tCall (spD K 3 r_law_prime_right) [] E0 (tCons (tVar 1) (tCons (tVar 2) (tCons (tVar 5) (tNil))))))) (tRet (tC (.bl false))) (tNext)))
def tL2 (K : PySem.W.Frag) : TS := (tFor (iRng1 (tCons (tC (.int 3)) (tNil))) (gName 6) (tSeq (tAsg (tCall (spPD K) [] E0 (tCons (tVar 0) (tCons (tVar 1) (tNil)))) (gName 7)) (tSeq (tAsg (tLc (iRng1 (tCons (tVar 4) (tNil))) (gName 8) (tTest (tOp (rEqD K) (tCall (spD K 3 r_law_moved_part) [] E0 (tCons (tVar 1) (tCons (tVar 7) (tCons (tVar 8) (tNil))))) (tVar 7))) (tVar 8) [8]) (gName 9)) (tSeq (tAsg (tLc (iRng1 (tCons (tVar 4) (tNil))) (gName 8) (tTest (tOp (rEqD K) (tLc (iTup K (tVar 7)) (gName 10) (tTest (tOp (rNeD K) (tOp (rIx K) (tOp (rIx K) (tVar 3) (tVar 8)) (tVar 10)) (tOp (rIx K) (tOp (rIx K) (tVar 3) (tVar 10)) (tVar 8)))) (tC (.int 1)) [10]) (tLst (tNil)))) (tVar 8) [8]) (gName 11)) (tSeq (tIfS (tOr (tTest (tOp (rNeD K) (tCall (spD K 2 r_normalizer_of) [] E0 (tCons (tVar 2) (tCons (tVar 7) (tNil)))) (tCB (rTupQ K) (tCons (tVar 9) (tNil))))) (tTest (tOp (rNeD K) (tCall (spD K 2 r_centralizer_of) [] E0 (tCons (tVar 2) (tCons (tVar 7) (tNil)))) (tCB (rTupQ K) (tCons (tVar 11) (tNil)))))) (tRet (tC (.bl false))) (tNext)) (tIfS (tTest (tOp (rNeD K) (tCall (spD K 2 r_is_commuting) [] E0 (tCons (tVar 2) (tCons (tVar 7) (tNil)))) (tOp (rEqD K) (tLc (iTup K (tVar 7)) (gName 12) (tTest (tOp (rNotInD K) (tVar 12) (tVar 11))) (tVar 12) [12]) (tLst (tNil))))) (tRet (tC (.bl false))) (tNext)))))))
def t_right (K : PySem.W.Frag) : TS := tSeq (tAsg (tCall (spGD K) [] E0 (tCons (tVar 0) (tCons (tC (.int 12)) (tNil)))) (gName 1)) (tSeq (tAsg (tTup (tCons (tMake aG (spSelf K aG r_self_init) [] E0 (tCons (tDGet (tVar 1) (tC (.str "moves"))) tNil)) (tCons (tDGet (tVar 1) (tC (.str "table"))) (tCons (tDGet (tVar 1) (tC (.str "size"))) (tNil))))) (gTup K 3 (gCons (gName 2) (gCons (gName 3) (gCons (gName 4) (gNil)))))) (tSeq (tFor (iTup K (tTup (tCons (tC (.int 2)) (tCons (tC (.int 3)) (tCons (tCall (spOne K) [] E0 (tCons (tVar 0) (tCons (tLst (tCons (tC (.int 5)) (tCons (tC (.int 7)) (tCons (tC (.int 11)) (tCons (tC (.int 13)) (tCons (tC (.int 17)) (tCons (tC (.int 19)) (tCons (tC (.int 23)) (tCons (tC (.int 29)) (tCons (tC (.int 31)) (tNil))))))))))) (tNil)))) (tNil)))))) (gName 5) (tIfS (tNot (tB (tCall (spD K 3 r_law_prime_right) [] E0 (tCons (tVar 1) (tCons (tVar 2) (tCons (tVar 5) (tNil))))))) (tRet (tC (.bl false))) (tNext))) (tSeq (tFor (iRng1 (tCons (tC (.int 3)) (tNil))) (gName 6) (tSeq (tAsg (tCall (spPD K) [] E0 (tCons (tVar 0) (tCons (tVar 1) (tNil)))) (gName 7)) (tSeq (tAsg (tLc (iRng1 (tCons (tVar 4) (tNil))) (gName 8) (tTest (tOp (rEqD K) (tCall (spD K 3 r_law_moved_part) [] E0 (tCons (tVar 1) (tCons (tVar 7) (tCons (tVar 8) (tNil))))) (tVar 7))) (tVar 8) [8]) (gName 9)) (tSeq (tAsg (tLc (iRng1 (tCons (tVar 4) (tNil))) (gName 8) (tTest (tOp (rEqD K) (tLc (iTup K (tVar 7)) (gName 10) (tTest (tOp (rNeD K) (tOp (rIx K) (tOp (rIx K) (tVar 3) (tVar 8)) (tVar 10)) (tOp (rIx K) (tOp (rIx K) (tVar 3) (tVar 10)) (tVar 8)))) (tC (.int 1)) [10]) (tLst (tNil)))) (tVar 8) [8]) (gName 11)) (tSeq (tIfS (tOr (tTest (tOp (rNeD K) (tCall (spD K 2 r_normalizer_of) [] E0 (tCons (tVar 2) (tCons (tVar 7) (tNil)))) (tCB (rTupQ K) (tCons (tVar 9) (tNil))))) (tTest (tOp (rNeD K) (tCall (spD K 2 r_centralizer_of) [] E0 (tCons (tVar 2) (tCons (tVar 7) (tNil)))) (tCB (rTupQ K) (tCons (tVar 11) (tNil)))))) (tRet (tC (.bl false))) (tNext)) (tIfS (tTest (tOp (rNeD K) (tCall (spD K 2 r_is_commuting) [] E0 (tCons (tVar 2) (tCons (tVar 7) (tNil)))) (tOp (rEqD K) (tLc (iTup K (tVar 7)) (gName 12) (tTest (tOp (rNotInD K) (tVar 12) (tVar 11))) (tVar 12) [12]) (tLst (tNil))))) (tRet (tC (.bl false))) (tNext))))))) (tSeq (tAsg (tDNewT) (gName 13)) (tSeq (tFor (iRng1 (tCons (tVar 4) (tNil))) (gName 14) (sDPut (tVar 13) (tCall (spD K 2 r_law_part) [] E0 (tCons (tVar 1) (tCons (tLst (tCons (tVar 14) (tNil))) (tNil)))) (tC (.int 1)))) (tRet (tOp (rEqD K) (tCall (spD K 1 r_generated_rounds) [] E0 (tCons (tVar 2) (tNil))) (tCB (rTupQ K) (tCons (tCB (rSortedTD K) (tCons (tVar 13) (tNil))) (tNil))))))))))
end K2

namespace K2
open PySem PySem.Spec PyProof.Rows L2 DL DN
theorem seq_nx {m n : M Fl} {δ δ' : DS} (h : mSeq m n δ = some (.nx δ')) : ∃ δ1, m δ = some (.nx δ1) ∧ n δ1 = some (.nx δ') := by
  unfold mSeq at h
  cases q : m δ with
  | none => rw [q] at h; cases h
  | some f =>
    rw [q] at h
    cases f with
    | nx δ1 => exact ⟨δ1, rfl, h⟩
    | _ => cases h
theorem own_nx {i : Nat} {m : M D} {δ δ' : DS} (h : mOwn i m δ = some (.nx δ')) : ∃ x, δ' = δ.set i (.own x) := by
  obtain ⟨x, _, h⟩ := Option.bind_eq_some_iff.mp (show (m δ).bind _ = some (Fl.nx δ') from h)
  split at h
  · cases h; exact ⟨x, rfl⟩
  · cases h
theorem ifret_nx {c : M Bool} {r : M D} {δ δ' : DS} (h : mIf c (mRet r) mNext δ = some (.nx δ')) : δ' = δ := by
  obtain ⟨b, _, h⟩ := Option.bind_eq_some_iff.mp (show (c δ).bind _ = some (Fl.nx δ') from h)
  cases b with
  | true =>
    have h : (r δ).map Fl.rt = some (.nx δ') := h
    cases q : r δ with
    | none => rw [q] at h; cases h
    | some d => rw [q] at h; cases h
  | false =>
    have h : some (Fl.nx δ) = some (.nx δ') := h
    cases h; rfl
theorem bd_shape {δ δ' : DS} (h : mbd δ = some (.nx δ')) : ∃ x y, δ' = (δ.set 9 (.own x)).set 11 (.own y) := by
  obtain ⟨δ1, h1, h⟩ := seq_nx h
  obtain ⟨x, rfl⟩ := own_nx h1
  obtain ⟨δ2, h2, h⟩ := seq_nx h
  obtain ⟨y, rfl⟩ := own_nx h2
  obtain ⟨δ3, h3, h⟩ := seq_nx h
  obtain rfl := ifret_nx h3
  obtain rfl := ifret_nx h
  exact ⟨x, y, rfl⟩
def st1 (G T b z : D) : DS := [.fro G, .fro T, .fro b, .fro z, .unk, .unk, .unk, .unk, .unk, .unk, .unk, .unk, .unk, .unk]
def st0 (G : D) : DS := [.fro G, .unk, .unk, .unk, .unk, .unk, .unk, .unk, .unk, .unk, .unk, .unk, .unk, .unk]
def primes : List Int := [2, 3, 5, 7, 11, 13, 17, 19, 23, 29, 31]
structure Good (G T b : D) (n : Int) : Prop where
  r2 : mr2 (.unk :: st0 G) = some (.nx (.unk :: st1 G T b (.int n)))
  n0 : 0 < n
  n1 : n < 1073741824
  sz : fGetI G (.str "size") = some (.int n)
  pr : ∀ p ∈ primes, r_law_prime_right [G, T, .int p] = some (.bl true)
  pt : ∀ ms, okMs n ms → ∃ q, r_law_part [G, lI ms] = some q ∧ ∃ δ', mbd (.unk :: (st1 G T b (.int n)).set 6 (.fro q)) = some (.nx δ')
  en : men (.unk :: st1 G T b (.int n)) = some (.rt (.bl true))
theorem i_gd : IrF mgd := by
  unfold mgd
  refine if_seq (if_own 1 (ir_disp ?_)) (if_seq (if_asg ?_ (irs_n 3)) (if_asg ?_ (irs_n 4)))
  · intro p hp
    simp only [List.mem_cons, List.not_mem_nil, or_false] at hp
    rcases hp with rfl | rfl | rfl | rfl | rfl | rfl | rfl | rfl | rfl <;> exact ⟨ir_c _, ir_c _⟩
  · exact ir_lc1 2 (ir_itl (ir_b (ir_cons (ir_call ir_nil) ir_nil))) (irs_n 2) (ir_bool (ir_m2 (ir_m3 (ir_any 1) (ir_any 2) (ir_c _)) (ir_any 0))) (ir_fro 2)
  · exact ir_lc1 2 (ir_itl (ir_fro 3)) (irs_n 2) (ir_or (ir_bool (ir_m2 (ir_any 2) (ir_any 1))) (ir_bool (ir_m2 (ir_b (ir_cons (ir_m2 (ir_fro 2) (ir_c _)) ir_nil)) (ir_any 0)))) (ir_fro 2)
theorem i_r2 : IrF mr2 := by
  unfold mr2
  exact if_asg (ir_tup (ir_cons (ir_f (ir_m2 (ir_any 0) (ir_c _))) (ir_cons (ir_m2 (ir_any 0) (ir_c _)) (ir_cons (ir_m2 (ir_any 0) (ir_c _)) ir_nil)))) (irs_tup (irss_cons (irs_n 1) (irss_cons (irs_n 2) (irss_cons (irs_n 3) irss_nil))))
theorem i_pr : IrF mpr := by
  unfold mpr
  exact if_if (ir_not (ir_bool (ir_call (ir_cons (ir_fro 0) (ir_cons (ir_fro 1) (ir_cons (ir_fro 4) ir_nil)))))) (if_ret (ir_c _)) if_next
theorem i_bd : IrF mbd := by
  unfold mbd
  refine if_seq (if_own 8 ?_) (if_seq (if_own 10 ?_) (if_seq (if_if ?_ (if_ret (ir_c _)) if_next) (if_if ?_ (if_ret (ir_c _)) if_next)))
  · exact ir_lc1 7 (ir_rng (ir_cons (ir_any 3) ir_nil)) (irs_n 7) (ir_bool (ir_m2 (ir_call (ir_cons (ir_fro 0) (ir_cons (ir_fro 6) (ir_cons (ir_fro 7) ir_nil)))) (ir_any 6))) (ir_fro 7)
  · exact ir_lc1 7 (ir_rng (ir_cons (ir_any 3) ir_nil)) (irs_n 7) (ir_bool (ir_m2 (ir_lc1 9 (ir_itt (ir_fro 6)) (irs_n 9) (ir_bool (ir_m2 (ir_m2 (ir_m2 (ir_any 2) (ir_any 7)) (ir_any 9)) (ir_m2 (ir_m2 (ir_any 2) (ir_any 9)) (ir_any 7)))) (ir_c _)) (ir_lst ir_nil))) (ir_fro 7)
  · exact ir_or (ir_bool (ir_m2 (ir_call (ir_cons (ir_fro 1) (ir_cons (ir_fro 6) ir_nil))) (ir_b (ir_cons (ir_any 8) ir_nil)))) (ir_bool (ir_m2 (ir_call (ir_cons (ir_fro 1) (ir_cons (ir_fro 6) ir_nil))) (ir_b (ir_cons (ir_any 10) ir_nil))))
  · exact ir_bool (ir_m2 (ir_call (ir_cons (ir_fro 1) (ir_cons (ir_fro 6) ir_nil))) (ir_m2 (ir_lc1 11 (ir_itt (ir_fro 6)) (irs_n 11) (ir_bool (ir_m2 (ir_any 11) (ir_any 10))) (ir_fro 11)) (ir_lst ir_nil)))
theorem i_en : IrF men := by
  unfold men
  exact if_seq (if_own 12 (ir_const _)) (if_seq (if_for (ir_rng (ir_cons (ir_any 3) ir_nil)) (irs_n 13) (if_put 12 (ir_call (ir_cons (ir_fro 0) (ir_cons (ir_lst (ir_cons (ir_fro 13) ir_nil)) ir_nil))) (ir_c _)))
    (if_ret (ir_m2 (ir_call (ir_cons (ir_fro 1) ir_nil)) (ir_b (ir_cons (ir_b (ir_cons (ir_any 12) ir_nil)) ir_nil)))))
end K2

namespace K2
open PySem PySem.Spec PyProof.Rows L2 DL DN
def gd0 : DS := [.fro (.int 12), .unk, .unk, .unk, .unk]
structure GdOk : Prop where
  st : ∃ ρ, mgd (.unk :: gd0) = some (.nx (.unk :: ρ)) ∧ ρ[4]? = some (.fro (.lst names))
  nm : ∀ e ∈ names, ∃ mv G, fGet ready e = some (some mv) ∧ r_law_group [mv] = some G
theorem pure_gd {K : PySem.W.Frag} (ok : GdOk) (vs : List V) (H : Hp) (Q : VK) (E : XK) (h : spGD K vs H Q E) :
    t_gd K { nx := fun _ H' => Q .non H', rt := Q } (start ["_law_dice_here", "_law_most", "_law_sizes", "_law_name", "_law_names", "_law_some"] vs) H := by
  obtain ⟨a, ws, F, ds, rfl, dA, s, hF, rl, rfl, k⟩ := h
  cases rl with
  | cons rG rl =>
  cases rl
  rename_i g
  have S0 : DR K F H a F H (L2.start ["_law_dice_here", "_law_most", "_law_sizes", "_law_name", "_law_names", "_law_some"] [.ref a, g]) gd0 := DR.start (N := ["_law_dice_here", "_law_most", "_law_sizes", "_law_name", "_law_names", "_law_some"]) s hF dA (.cons rG .nil)
  show tSeq (tgd K) (rgd K) _ _ _
  obtain ⟨ρ, e1, e2⟩ := ok.st
  refine DR.sx (t := tgd K) xgd i_gd e1 S0 fun σ1 F1 H1 S1 s1 => ?_
  show tCall (spD K 0 r_law_ready_moves) [] E0 tNil σ1 H1 _
  refine DR.ex (m := mCall 0 r_law_ready_moves mNil) (fun _ _ => ex_call ax_nil) (ir_call ir_nil) (d := ready) (by show (if ([] : List D).length = 0 then r_law_ready_moves [] else none) = some ready; exact (if_pos List.length_nil).trans ready_is) S1 fun v2 F2 H2 S2 s2 r2 => ?_
  obtain ⟨w5, h5, r5⟩ := S2.fro e2
  refine ⟨_, S2.slot, _, h5, ?_⟩
  dsimp only [tNil]
  refine S2.one (d := .lst names) r5 (by decide) (by decide) fun x H3 e he S3 rx => ?_
  obtain ⟨mv, G, g1, g2⟩ := ok.nm e he
  obtain ⟨b, w, hb, gd, _, hw⟩ := get_ok S3.s (.inl r2) (.inl rx) g1
  rcases hw with ⟨z', v', e4, e5, r⟩ | ⟨e4, _⟩
  · cases e4
    subst e5
    refine ⟨b, v', hb, gd, ?_⟩
    exact ⟨F2, [mv], G, S3.s, .cons r .nil, rfl, g2, fun v F' H' x r => (by
      have S5 := S3.up x
      exact k G v F' H' ⟨e, mv, he, g1, g2⟩ S5.fin S5.at S5.fr r)⟩
  · cases e4
def spRight : Sp := fun vs H Q _ => ∃ a, vs = [.ref a] ∧ DiceAt H a ∧ ∀ H', Same (hideH a H) H' → Q (.bl true) H'
def qs : List Int := [5, 7, 11, 13, 17, 19, 23, 29, 31]
abbrev rN : List Str := ["_law_dice_here", "_law_group_here", "_law_told", "_law_table", "_law_size", "_law_prime", "_law_turn", "_law_part_here", "_law_g", "_law_keeps", "_law_u", "_law_alone", "_law_one", "_law_rounds", "_law_member"]
theorem pr_at {G T b : D} {n p : Int} (h : r_law_prime_right [G, T, .int p] = some (.bl true)) : mpr (.unk :: (st1 G T b (.int n)).set 4 (.fro (.int p))) = some (.nx (.unk :: (st1 G T b (.int n)).set 4 (.fro (.int p)))) := by
  have e : mCall 3 r_law_prime_right (mCons (mFro 1) (mCons (mFro 2) (mCons (mFro 5) mNil))) (.unk :: (st1 G T b (.int n)).set 4 (.fro (.int p))) = some (.bl true) := by
    show (if 3 = 3 then r_law_prime_right [G, T, .int p] else none) = _
    rw [if_pos rfl, h]
  unfold mpr mIf mNot mBool
  rw [e]
  rfl
theorem pure_right {K : PySem.W.Frag} (ok : ∀ G, RelGD G → ∃ T b n, Good G T b n) (vs : List V) (H : Hp) (Q : VK) (E : XK) (h : spRight vs H Q E) :
    t_right K { nx := fun _ H' => Q .non H', rt := Q } (start rN vs) H := by
  obtain ⟨a, rfl, dA, k⟩ := h
  have S0 : DR K (fun _ => none) H a (fun _ => none) H (L2.start rN [.ref a]) (List.replicate 14 .unk) := DR.start (N := rN) (ds := []) (fun _ _ e => by cases e) rfl dA .nil
  suffices key : ∀ D0 : Ends, D0.rt = Q → t_right K D0 (start rN [.ref a]) H from key _ rfl
  intro D0 hD
  show tSeq (tAsg (tCall (spGD K) [] E0 (tCons (tVar 0) (tCons (tC (.int 12)) (tNil)))) (gName 1)) (tSeq (tr2 K) (tSeq (tL1 K) (tSeq (tL2 K) (ten K)))) D0 (start rN [.ref a]) H
  refine ⟨_, S0.slot, ?_⟩
  dsimp only [tNil, tC, tCons]
  refine S0.w (Pre := fun ds => ds = [.int 12]) (R := fun _ d => RelGD d) (ds := [.int 12]) (.cons (.int 12) .nil) rfl fun G g F1 H1 hG S1 s1 rG => ?_
  obtain ⟨T, b, n, gd⟩ := ok G hG
  have S1 : DR K (fun _ => none) H a F1 H1 _ (st0 G) := S1.set (i := 0) rG
  refine DR.sx (t := tr2 K) xr2 i_r2 gd.r2 S1 fun σ2 F2 H2 S2 s2 => ?_
  -- the primes
  refine ⟨_, S2.slot, by decide, fun p hp => ?_⟩
  have S3 := S2.up (Ext.laid S2.s (p := p) (o := .lst (qs.map V.int)) hp)
  dsimp only [tNil]
  refine S3.one (d := .lst (qs.map D.int)) (.obj upd_same (.lst (rpl_ints qs))) (by decide) (by decide) fun x H4 e he S4 rx => ?_
  obtain ⟨q, hq, rfl⟩ := List.mem_map.mp (show e ∈ qs.map D.int from he)
  obtain rfl := rp_int rx
  refine ⟨(by decide : 3 ≤ sizeLine), fun t ht => ?_⟩
  have S5 := S4.up (Ext.laid S4.s (p := t) (o := .tup [.int 2, .int 3, .int q]) ht)
  have hF5 : (L2.upd (L2.upd F2 p (.lst (qs.map V.int))) t (.tup [.int 2, .int 3, .int q])) t = some (.tup [.int 2, .int 3, .int q]) := upd_same
  generalize (L2.upd (L2.upd F2 p (.lst (qs.map V.int))) t (.tup [.int 2, .int 3, .int q])) = F5 at S5 hF5
  refine ⟨t, rfl, ⟨_, SqT.of upd_same⟩, for_tup (D := { D0 with nx := tSeq (tL2 K) (ten K) D0 }) (tb := tpr K) (K := K) (a := t) (xs := [.int 2, .int 3, .int q]) (fun i σ H' => ∃ F, DR K (fun _ => none) H a F H' σ (st1 G T b (.int n)) ∧ Same F5 F) ⟨F5, S5, Same.refl _⟩ ?_ ?_ ?_⟩
  · rintro i σ H' _ ⟨F, S, s⟩
    exact SqT.of (S.s _ _ (s _ _ hF5))
  · rintro i x σ H' hx ⟨F, S, s⟩
    have hp : ∃ p, p ∈ primes ∧ x = .int p := by
      have := List.mem_of_getElem? hx
      simp only [List.mem_cons, List.not_mem_nil, or_false] at this
      rcases this with rfl | rfl | rfl
      · exact ⟨2, by decide, rfl⟩
      · exact ⟨3, by decide, rfl⟩
      · exact ⟨q, List.mem_cons_of_mem _ (List.mem_cons_of_mem _ hq), rfl⟩
    obtain ⟨p, hp, rfl⟩ := hp
    refine DR.sx (t := tpr K) xpr i_pr (pr_at (gd.pr p hp)) (S.set (i := 4) (.int p)) fun σ' F' H' S' s' => ?_
    exact ⟨F', S'.forget 4, s.trans s'⟩
  rintro σ6 H6 ⟨F6, S6, _⟩
  -- the parts
  refine ⟨3, rfl, by decide, by decide, for_range (D := { D0 with nx := ten K D0 }) (n := 3) (fun i σ H' => ∃ F, DR K (fun _ => none) H a F H' σ (st1 G T b (.int n))) ⟨F6, S6⟩ ?_ ?_⟩
  · rintro i σ H' _ ⟨F, S⟩
    have S := S.set (i := 5) (v := .int (0 + i)) (.int _)
    obtain ⟨g', h1, r1⟩ := S.fro (i := 0) rfl
    refine ⟨_, S.slot, _, h1, ?_⟩
    dsimp only [tNil]
    refine S.w (Pre := PrePD) (R := RelPD) (ds := [G]) (.cons r1 .nil) ⟨G, n, rfl, gd.sz, gd.n0, gd.n1, fun ms hm => ⟨_, (gd.pt ms hm).choose_spec.1⟩⟩ fun d v F' H' hd S' s' r' => ?_
    obtain ⟨G', n', ms, e1, e2, e3, e4⟩ := hd
    cases e1
    have e5 := gd.sz.symm.trans e2
    cases e5
    obtain ⟨q', e6, δ', e7⟩ := gd.pt ms e3
    have e8 := e4.symm.trans e6
    cases e8
    have S' := (S'.forget 5).set (i := 6) r'
    obtain ⟨x, y, rfl⟩ := bd_shape e7
    refine DR.sx (t := tbd K) xbd i_bd e7 S' fun σ3 F3 H3 S3 s3 => ?_
    exact ⟨F3, ((S3.forget 10).forget 8).forget 6⟩
  rintro σ7 H7 ⟨F7, S7⟩
  refine DR.rt (t := ten K) xen i_en gd.en S7 fun v F' H' s r => ?_
  obtain rfl := rp_bl r
  rw [hD]
  exact k H' s
end K2

namespace K2
open PySem PySem.Spec PyProof.Rows L2 DL DN
section
variable {P : Program} {w : World} {K : PySem.W.Frag} {mg : Str → Option Value} {base : Heap}
abbrev slaw_group_drawn : Stmt := top 47
abbrev slaw_part_drawn : Stmt := top 49
abbrev slaw_right : Stmt := top 54
abbrev slaw : Stmt := top 55
theorem sclaw_group_drawn : FnScope ["_law_dice_here", "_law_most", "_law_sizes", "_law_name", "_law_names", "_law_some"] ["_law_dice_here", "_law_most"] (defScope slaw_group_drawn) := ⟨rfl, rfl, rfl, by decide +kernel, rfl, by decide +kernel, by decide +kernel⟩
theorem sclaw_part_drawn : FnScope ["_law_dice_here", "_law_group_here", "_law_turn"] ["_law_dice_here", "_law_group_here"] (defScope slaw_part_drawn) := ⟨rfl, rfl, rfl, by decide +kernel, rfl, by decide +kernel, by decide +kernel⟩
theorem sclaw_right : FnScope ["_law_dice_here", "_law_group_here", "_law_told", "_law_table", "_law_size", "_law_prime", "_law_turn", "_law_part_here", "_law_g", "_law_keeps", "_law_u", "_law_alone", "_law_one", "_law_rounds", "_law_member"] ["_law_dice_here"] (defScope slaw_right) := ⟨rfl, rfl, rfl, by decide +kernel, rfl, by decide +kernel, by decide +kernel⟩
theorem sclaw : FnScope ["_law_script", "_law_at", "_law_dice_here"] ["_law_script"] (defScope slaw) := ⟨rfl, rfl, rfl, by decide +kernel, rfl, by decide +kernel, by decide +kernel⟩
theorem ok_law_group_drawn (ok : GdOk) {f : Addr} {fd : FuncData} (F : Fun K "_law_group_drawn" "_law_group_drawn" slaw_group_drawn f fd) (Dr_law_one_of : OwnS P w K mg base 2 "_law_one_of" (spOne K)) (F__law_group : Own P w K mg base 3 "_law_group" 1 r_law_group) (F__law_ready_moves : Own P w K mg base 2 "_law_ready_moves" 0 r_law_ready_moves) (z_int : mg "int" = none) (z_sorted : mg "sorted" = none) : FnOk P w K mg base CX0 4 f fd ["_law_dice_here", "_law_most"] (spGD K) := by
  have sc := sclaw_group_drawn
  refine F.ok sc (fun vs H Q E h => by obtain ⟨a, ws, F, ds, rfl, _, _, _, rl, rfl, _⟩ := h; cases rl with | cons _ rl => cases rl; rfl) (fun cdv A outer s H vs Q E hr h => ⟨t_gd K, ?_, pure_gd ok vs H Q E h⟩)
  exact pss_cons (ps_set (i := 2) sc.nd rfl (.inr rfl) (pe_disp (pps_cons (pe_str) (pe_int) (pps_cons (pe_str) (pe_int) (pps_cons (pe_str) (pe_int) (pps_cons (pe_str) (pe_int) (pps_cons (pe_str) (pe_int) (pps_cons (pe_str) (pe_int) (pps_cons (pe_str) (pe_int) (pps_cons (pe_str) (pe_int) (pps_cons (pe_str) (pe_int) (pps_nil)))))))))) rfl rfl (by simp) (by decide))) (pss_cons (ps_setLc (i := 4) (own := [("_law_name", 3)]) rfl sc.nd rfl rfl (sw_true rfl rfl rfl (by decide +kernel)) (pi_list (pe_callB (hSortKS rfl) rfl z_sorted (by decide +kernel) (pa_cons (pe_call0 F__law_ready_moves.F (hr.mono (by decide)) rfl F__law_ready_moves.g F__law_ready_moves.k F__law_ready_moves.b .nil pass0) (pa_nil)))) (blkOk_by (by rfl)) (fun _ _ _ _ _ => pg_name (i := 3) sc.nd rfl (.inl rfl)) (fun _ _ _ _ _ => pts_one (pt_cmpR op_le (pe_dget2 (hu1 hr) (pv 2) (pv 3) (pe_int) ⟨rfl, rfl, rfl, rfl⟩) (pv 1) (nomark _))) (fun _ _ _ _ _ => pv 3)) (pss_cons (ps_setLc (i := 5) (own := [("_law_name", 3)]) rfl sc.nd rfl rfl (sw_true rfl rfl rfl (by decide +kernel)) (pi_list (pv 4)) (blkOk_by (by rfl)) (fun _ _ _ _ _ => pg_name (i := 3) sc.nd rfl (.inl rfl)) (fun _ _ _ _ _ => pts_one (PW.pt (pw_or (pt_cmp (pc_din (hu1 hr) (pv 3) (pv 2))) (pw_or1 (pt_cmpR op_le (pe_callTy hIntS rfl z_int (by decide +kernel) (pa_cons (pe_slice sl_str (pv 3) (po_some (pe_int)) po_none) (pa_nil))) (pv 1) (nomark _)))))) (fun _ _ _ _ _ => pv 3)) (pss_one (ps_ret (pe_call F__law_group.F (hr.mono (by decide)) rfl F__law_group.g F__law_group.k F__law_group.b .nil pass0 (pa_cons (pe_dget (hu1 hr) (pe_call0 F__law_ready_moves.F (hr.mono (by decide)) rfl F__law_ready_moves.g F__law_ready_moves.k F__law_ready_moves.b .nil pass0) (pe_call Dr_law_one_of.F (hr.mono (by decide)) rfl Dr_law_one_of.g Dr_law_one_of.k Dr_law_one_of.b .nil pass0 (pa_cons (pv 0) (pa_cons (pv 5) (pa_nil)))) (fun _ _ => rfl)) (pa_nil)))))))
theorem ok_law_part_drawn {f : Addr} {fd : FuncData} (F : Fun K "_law_part_drawn" "_law_part_drawn" slaw_part_drawn f fd) (Dr_law_roll : OwnS P w K mg base 1 "_law_roll" spRoll) (F__law_part : Own P w K mg base 1 "_law_part" 2 r_law_part) (z_range : mg "range" = none) : FnOk P w K mg base CX0 3 f fd ["_law_dice_here", "_law_group_here"] (spPD K) := by
  have sc := sclaw_part_drawn
  refine F.ok sc (fun vs H Q E h => by obtain ⟨a, ws, F, ds, rfl, _, _, _, rl, ⟨G, n, rfl, _⟩, _⟩ := h; cases rl with | cons _ rl => cases rl; rfl) (fun cdv A outer s H vs Q E hr h => ⟨t_pd K, ?_, pure_pd vs H Q E h⟩)
  exact pss_one (ps_ret (pe_call F__law_part.F (hr.mono (by decide)) rfl F__law_part.g F__law_part.k F__law_part.b .nil pass0 (pa_cons (pv 1) (pa_cons (pe_lc (own := [("_law_turn", 2)]) rfl sc.nd (pi_range1 rfl z_range (pa_cons (pe_call Dr_law_roll.F (hr.mono (by decide)) rfl Dr_law_roll.g Dr_law_roll.k Dr_law_roll.b .nil pass0 (pa_cons (pv 0) (pa_cons (pe_int) (pa_nil)))) (pa_nil))) (blkOk_by (by rfl)) (fun _ _ _ _ _ => pg_name (i := 2) sc.nd rfl (.inl rfl)) (fun _ _ _ _ _ => pts_nil) (fun _ _ _ _ _ => pe_call Dr_law_roll.F (hr.mono (by decide)) rfl Dr_law_roll.g Dr_law_roll.k Dr_law_roll.b .nil pass0 (pa_cons (pv 0) (pa_cons (pe_dget (hu1 hr) (pv 1) (pe_str) (fun _ _ => rfl)) (pa_nil))))) (pa_nil)))))
theorem ok_law_right (ok : ∀ G, RelGD G → ∃ T b n, Good G T b n) {f : Addr} {fd : FuncData} (F : Fun K "_law_right" "_law_right" slaw_right f fd) (Dr_law_group_drawn : OwnS P w K mg base 4 "_law_group_drawn" (spGD K)) (Dr_law_one_of : OwnS P w K mg base 2 "_law_one_of" (spOne K)) (Dr_law_part_drawn : OwnS P w K mg base 3 "_law_part_drawn" (spPD K)) (F__law_moved_part : Own P w K mg base 1 "_law_moved_part" 3 r_law_moved_part) (F__law_part : Own P w K mg base 1 "_law_part" 2 r_law_part) (F__law_prime_right : Own P w K mg base 8 "_law_prime_right" 3 r_law_prime_right) (F_centralizer_of : Own P w K mg base 7 "centralizer_of" 2 r_centralizer_of) (F_generated_rounds : Own P w K mg base 3 "generated_rounds" 1 r_generated_rounds) (F_is_commuting : Own P w K mg base 7 "is_commuting" 2 r_is_commuting) (F_normalizer_of : Own P w K mg base 7 "normalizer_of" 2 r_normalizer_of) (Init : OwnInit P w K mg base 6 aG "Group" r_self_init) (z_range : mg "range" = none) (z_sorted : mg "sorted" = none) (z_tuple : mg "tuple" = none) : FnOk P w K mg base CX0 9 f fd ["_law_dice_here"] spRight := by
  have sc := sclaw_right
  refine F.ok sc (fun vs H Q E h => by obtain ⟨a, rfl, _⟩ := h; rfl) (fun cdv A outer s H vs Q E hr h => ⟨t_right K, ?_, pure_right ok vs H Q E h⟩)
  exact pss_cons (ps_set (i := 1) sc.nd rfl (.inr rfl) (pe_call Dr_law_group_drawn.F (hr.mono (by decide)) rfl Dr_law_group_drawn.g Dr_law_group_drawn.k Dr_law_group_drawn.b .nil pass0 (pa_cons (pv 0) (pa_cons (pe_int) (pa_nil))))) (pss_cons (ps_asg (pe_tup (pa_cons (pe_make Init.M Init.F (hr.mono (by decide)) rfl Init.g Init.b .nil pass0 (pa_cons (pe_dget (hu1 hr) (pv 1) (pe_str) (fun _ _ => rfl)) pa_nil)) (pa_cons (pe_dget (hu1 hr) (pv 1) (pe_str) (fun _ _ => rfl)) (pa_cons (pe_dget (hu1 hr) (pv 1) (pe_str) (fun _ _ => rfl)) (pa_nil))))) (pg_tup rfl (pgs_cons (pg_name (i := 2) sc.nd rfl (.inl rfl)) (pgs_cons (pg_name (i := 3) sc.nd rfl (.inr rfl)) (pgs_cons (pg_name (i := 4) sc.nd rfl (.inl rfl)) (pgs_nil)))))) (pss_cons (ps_for PassesOwn.never rfl (pi_tup (pe_tup (pa_cons (pe_int) (pa_cons (pe_int) (pa_cons (pe_call Dr_law_one_of.F (hr.mono (by decide)) rfl Dr_law_one_of.g Dr_law_one_of.k Dr_law_one_of.b .nil pass0 (pa_cons (pv 0) (pa_cons (pe_lst (pa_cons (pe_int) (pa_cons (pe_int) (pa_cons (pe_int) (pa_cons (pe_int) (pa_cons (pe_int) (pa_cons (pe_int) (pa_cons (pe_int) (pa_cons (pe_int) (pa_cons (pe_int) (pa_nil))))))))))) (pa_nil)))) (pa_nil)))))) (pg_name (i := 5) sc.nd rfl (.inl rfl)) (pss_one (ps_if (pt_not (pt_val (pe_call F__law_prime_right.F (hr.mono (by decide)) rfl F__law_prime_right.g F__law_prime_right.k F__law_prime_right.b .nil pass0 (pa_cons (pv 1) (pa_cons (pv 2) (pa_cons (pv 5) (pa_nil))))) (fun _ => rfl))) (pss_one (ps_ret (pe_bl))) (pss_nil)))) (pss_cons (ps_for PassesOwn.never rfl (pi_range1 rfl z_range (pa_cons (pe_int) (pa_nil))) (pg_name (i := 6) sc.nd rfl (.inl rfl)) (pss_cons (ps_set (i := 7) sc.nd rfl (.inr rfl) (pe_call Dr_law_part_drawn.F (hr.mono (by decide)) rfl Dr_law_part_drawn.g Dr_law_part_drawn.k Dr_law_part_drawn.b .nil pass0 (pa_cons (pv 0) (pa_cons (pv 1) (pa_nil))))) (pss_cons (ps_setLc (i := 9) (own := [("_law_g", 8)]) rfl sc.nd rfl rfl (sw_true rfl rfl rfl (by decide +kernel)) (pi_range1 rfl z_range (pa_cons (pv 4) (pa_nil))) (blkOk_by (by rfl)) (fun _ _ _ _ _ => pg_name (i := 8) sc.nd rfl (.inl rfl)) (fun _ _ _ _ _ => pts_one (pt_cmpR (op_eqD (hu64 hr)) (pe_call F__law_moved_part.F (hr.mono (by decide)) rfl F__law_moved_part.g F__law_moved_part.k F__law_moved_part.b .nil pass0 (pa_cons (pv 1) (pa_cons (pv 7) (pa_cons (pv 8) (pa_nil))))) (pv 7) (nomark _))) (fun _ _ _ _ _ => pv 8)) (pss_cons (ps_set (i := 11) sc.nd rfl (.inr rfl) (pe_lc (own := [("_law_g", 8)]) rfl sc.nd (pi_range1 rfl z_range (pa_cons (pv 4) (pa_nil))) (blkOk_by (by rfl)) (fun _ _ _ _ _ => pg_name (i := 8) sc.nd rfl (.inr rfl)) (fun _ _ _ _ _ => pts_one (pt_cmpR (op_eqD (hu64 hr)) (pe_lc (own := [("_law_u", 10)]) rfl sc.nd (pi_tup (pv 7)) (blkOk_by (by rfl)) (fun _ _ _ _ _ => pg_name (i := 10) sc.nd rfl (.inl rfl)) (fun _ _ _ _ _ => pts_one (pt_cmpR (op_neD (hu64 hr)) (pe_ix ix_seq (pe_ix ix_seq (pv 3) (pv 8) (fun _ _ => rfl)) (pv 10) (fun _ _ => rfl)) (pe_ix ix_seq (pe_ix ix_seq (pv 3) (pv 10) (fun _ _ => rfl)) (pv 8) (fun _ _ => rfl)) (nomark _))) (fun _ _ _ _ _ => pe_int)) (pe_lst (pa_nil)) (nomark _))) (fun _ _ _ _ _ => pv 8))) (pss_cons (ps_if (PW.pt (pw_or (pt_cmpR (op_neD (hu64 hr)) (pe_call F_normalizer_of.F (hr.mono (by decide)) rfl F_normalizer_of.g F_normalizer_of.k F_normalizer_of.b .nil pass0 (pa_cons (pv 2) (pa_cons (pv 7) (pa_nil)))) (pe_callTy hTupQ rfl z_tuple (by decide +kernel) (pa_cons (pv 9) (pa_nil))) (nomark _)) (pw_or1 (pt_cmpR (op_neD (hu64 hr)) (pe_call F_centralizer_of.F (hr.mono (by decide)) rfl F_centralizer_of.g F_centralizer_of.k F_centralizer_of.b .nil pass0 (pa_cons (pv 2) (pa_cons (pv 7) (pa_nil)))) (pe_callTy hTupQ rfl z_tuple (by decide +kernel) (pa_cons (pv 11) (pa_nil))) (nomark _))))) (pss_one (ps_ret (pe_bl))) (pss_nil)) (pss_one (ps_if (pt_cmpR (op_neD (hu64 hr)) (pe_call F_is_commuting.F (hr.mono (by decide)) rfl F_is_commuting.g F_is_commuting.k F_is_commuting.b .nil pass0 (pa_cons (pv 2) (pa_cons (pv 7) (pa_nil)))) (pe_cmpR (op_eqD (hu64 hr)) (pe_lc (own := [("_law_one", 12)]) rfl sc.nd (pi_tup (pv 7)) (blkOk_by (by rfl)) (fun _ _ _ _ _ => pg_name (i := 12) sc.nd rfl (.inl rfl)) (fun _ _ _ _ _ => pts_one (pt_cmpR (op_notInD (hu65 hr)) (pv 12) (pv 11) (by rfl))) (fun _ _ _ _ _ => pv 12)) (pe_lst (pa_nil)) (nomark _)) (nomark _)) (pss_one (ps_ret (pe_bl))) (pss_nil)))))))) (pss_cons (ps_set (i := 13) sc.nd rfl (.inl rfl) (pe_dnewT)) (pss_cons (ps_for PassesOwn.never rfl (pi_range1 rfl z_range (pa_cons (pv 4) (pa_nil))) (pg_name (i := 14) sc.nd rfl (.inl rfl)) (pss_one (ps_dput (hu1 hr) (pv 13) (pe_call F__law_part.F (hr.mono (by decide)) rfl F__law_part.g F__law_part.k F__law_part.b .nil pass0 (pa_cons (pv 1) (pa_cons (pe_lst (pa_cons (pv 14) (pa_nil))) (pa_nil)))) (pe_int) rfl))) (pss_one (ps_ret (pe_cmpR (op_eqD (hu64 hr)) (pe_call F_generated_rounds.F (hr.mono (by decide)) rfl F_generated_rounds.g F_generated_rounds.k F_generated_rounds.b .nil pass0 (pa_cons (pv 2) (pa_nil))) (pe_callTy hTupQ rfl z_tuple (by decide +kernel) (pa_cons (pe_callB (cr_sortedTD rfl (hu64 hr)) rfl z_sorted (by decide +kernel) (pa_cons (pv 13) (pa_nil))) (pa_nil))) (nomark _)))))))))
def rMax2 : List V → Hp → VK → Prop := fun xs H Q => ∃ i j, xs = [.int i, .int j] ∧ Q (.int (if j > i then j else i)) H
def rMin2 : List V → Hp → VK → Prop := fun xs H Q => ∃ i j, xs = [.int i, .int j] ∧ Q (.int (if j < i then j else i)) H
theorem hMax2 {X : Cx} (hc : X.calm = true) : CallR X (.builtin "max") rMax2 := call_max2 hc
theorem hMin2 {X : Cx} (hc : X.calm = true) : CallR X (.builtin "min") rMin2 := call_min2 hc
def spLaw (K : PySem.W.Frag) : Sp := fun vs H Q _ => ∃ (b : Addr) (ns : List Int), vs = [.ref b] ∧ SqL K H b (ns.map V.int) ∧ ∀ H', Q (.bl true) H'
theorem sql_mono {K : PySem.W.Frag} {H H' : Hp} {b : Addr} {xs : List V} (e : ∀ o, H b = some o → H' b = some o) (h : SqL K H b xs) : SqL K H' b xs := by
  rcases h with (h | ⟨o, h⟩) | h
  · exact .inl (.inl (e _ h))
  · exact .inl (.inr ⟨o, e _ h⟩)
  · exact .inr h
def t_bodyL (K : PySem.W.Frag) : TS := tSeq (tAsg (tCall (spDice K) [] E0 (tCons (tVar 0) (tCons (tVar 1) tNil))) (gName 2)) (tIfS (tNot (tB (tCall spRight [] E0 (tCons (tVar 2) tNil)))) (tRet (tC (.bl false))) tNext)
def t_law (K : PySem.W.Frag) (most : Int) : TS := tSeq (tFor (iRng1 (tCons (tCB rMax2 (tCons (tC (.int 1)) (tCons (tCB rMin2 (tCons (tC (.int most)) (tCons (tCB (rLenQ K) (tCons (tVar 0) tNil)) tNil))) tNil))) tNil)) (gName 1) (t_bodyL K)) (tRet (tC (.bl true)))
theorem pure_law {K : PySem.W.Frag} (most : Int) (hm : most < 64) (vs : List V) (H : Hp) (Q : VK) (E : XK) (h : spLaw K vs H Q E) :
    t_law K most { nx := fun _ H' => Q .non H', rt := Q } (start ["_law_script", "_law_at", "_law_dice_here"] vs) H := by
  obtain ⟨b, ns, rfl, hs, k⟩ := h
  suffices key : ∀ D0 : Ends, D0.rt = Q → t_law K most D0 (start ["_law_script", "_law_at", "_law_dice_here"] [.ref b]) H from key _ rfl
  intro D0 hD
  have hn : ∃ n : Int, n < 64 ∧ 0 ≤ n ∧ (if (if ((ns.map V.int).length : Int) < most then ((ns.map V.int).length : Int) else most) > 1 then (if ((ns.map V.int).length : Int) < most then ((ns.map V.int).length : Int) else most) else 1) = n := by
    refine ⟨_, ?_, ?_, rfl⟩
    · repeat' split
      all_goals omega
    · repeat' split
      all_goals omega
  obtain ⟨n, n1, n0, hn⟩ := hn
  refine ⟨_, rfl, b, _, rfl, .inl hs, _, _, rfl, _, _, rfl, n, by rw [hn], by omega, by omega, for_range (D := { D0 with nx := tRet (tC (.bl true)) D0 }) (n := n.toNat) (tb := t_bodyL K) (fun i σ H' => ∃ x y, σ = [some (.ref b), x, y] ∧ SqL K H' b (ns.map V.int)) ⟨none, none, rfl, hs⟩ ?_ ?_⟩
  · rintro i σ H1 hi ⟨x, y, rfl, hs1⟩
    refine ⟨_, rfl, _, rfl, ?_⟩
    refine ⟨b, ns, 0 + i, rfl, hs1, by omega, by omega, fun a H2 ha d o => ?_⟩
    have hs2 : SqL K H2 b (ns.map V.int) := sql_mono (fun u e => by rw [o b (fun z => by subst z; rw [ha] at e; cases e)]; exact e) hs1
    refine ⟨_, rfl, ?_⟩
    refine ⟨a, rfl, d, fun H3 s => ⟨true, rfl, ?_⟩⟩
    refine ⟨_, _, rfl, sql_mono (fun u e => ?_) hs1⟩
    have hb : b ≠ a := fun z => by subst z; rw [ha] at e; cases e
    exact s b u (hide_of hb (by rw [o b hb]; exact e))
  · rintro σ H1 _
    show D0.rt _ _
    rw [hD]
    exact k H1
theorem ok_law {f : Addr} {fd : FuncData} (F : Fun K "law" "law" slaw f fd) (Dd : OwnS P w K mg base 1 "_law_dice" (spDice K)) (Dr : OwnS P w K mg base 9 "_law_right" spRight) (z_range : mg "range" = none) (z_max : mg "max" = none) (z_min : mg "min" = none) (z_len : mg "len" = none) : FnOk P w K mg base CX0 10 f fd ["_law_script"] (spLaw K) := by
  have sc := sclaw
  refine F.ok sc (fun vs H Q E h => by obtain ⟨b, ns, rfl, _⟩ := h; rfl) (fun cdv A outer s H vs Q E hr h => ⟨t_law K 4, ?_, pure_law 4 (by decide) vs H Q E h⟩)
  exact pss_cons (ps_for PassesOwn.never rfl (pi_range1 rfl z_range (pa_cons (pe_callB (hMax2 rfl) rfl z_max (by decide +kernel) (pa_cons pe_int (pa_cons (pe_callB (hMin2 rfl) rfl z_min (by decide +kernel) (pa_cons pe_int (pa_cons (pe_callB hLenQ rfl z_len (by decide +kernel) (pa_cons (pv 0) pa_nil)) pa_nil))) pa_nil))) pa_nil)) (pg_name (i := 1) sc.nd rfl (.inl rfl))
      (pss_cons (ps_set (i := 2) sc.nd rfl (.inl rfl) (pe_call Dd.F (hr.mono (by decide)) rfl Dd.g Dd.k Dd.b .nil pass0 (pa_cons (pv 0) (pa_cons (pv 1) pa_nil))))
        (pss_one (ps_if (pt_not (pt_val (pe_call Dr.F (hr.mono (by decide)) rfl Dr.g Dr.k Dr.b .nil pass0 (pa_cons (pv 2) pa_nil)) (fun _ => rfl))) (pss_one (ps_ret pe_bl)) pss_nil))))
    (pss_one (ps_ret pe_bl))
end
end K2

namespace K2
open PySem PySem.Spec PyProof.Rows L2 DL DN
theorem seq_at {m n : M Fl} {δ δ1 : DS} (h : m δ = some (.nx δ1)) : mSeq m n δ = n δ1 := by
  unfold mSeq
  rw [h]
theorem mLc_w {vs : List Nat} {w w' : M (List D)} {st : DS → D → Option DS} {t : M Bool} {m : M D} {δ : DS} (h : w δ = w' δ) : mLc vs w st t m δ = mLc vs w' st t m δ := by
  unfold mLc
  rw [h]
def mpa : M Fl := (mAsg (mTup (mCons (mCall 2 r_prime_part (mCons (mFro 1) (mCons (mFro 2) (mNil)))) (mCons (mCall 2 r_law_greatest (mCons (m2 fGetI (mAny 0) (mC (.str "size"))) (mCons (mFro 2) (mNil)))) (mNil)))) (stTup 2 (stCons (stN 3) (stCons (stN 4) (stNil)))))
def mpb : M Fl := (mIf (mOr (mNot (mBool (mB (fIsi (isTupD) (isTyD "tuple") true) (mCons (mAny 3) (mCons (mC (.ty "tuple")) mNil))))) (mOr (mBool (m2 (fEq true) (mB (f1 fLen) (mCons (mAny 3) (mNil))) (mAny 4))) (mBool (m2 (fEq true) (mCall 2 r_law_part (mCons (mFro 0) (mCons (mB (f1 fun d => (seqD d).map D.lst) (mCons (mAny 3) (mNil))) (mNil)))) (mAny 3))))) (mRet (mC (.bl false))) (mNext))
def mpc : M Fl := (mOwn 6 (mLc [5] (mRng (mCons (m2 fGetI (mAny 0) (mC (.str "size"))) (mNil))) (stN 5) (fun _ => some true) (mCall 3 r_moved_part (mCons (mFro 1) (mCons (mFro 3) (mCons (mFro 5) (mNil)))))))
def mpd : M Fl := (mIf (mBool (m2 (fEq true) (mAny 6) (mLc [5] (mRng (mCons (m2 fGetI (mAny 0) (mC (.str "size"))) (mNil))) (stN 5) (fun _ => some true) (mCall 3 r_law_moved_part (mCons (mFro 0) (mCons (mFro 3) (mCons (mFro 5) (mNil)))))))) (mRet (mC (.bl false))) (mNext))
def mprA : M Fl := mSeq mpa (mSeq mpb (mSeq mpc mpd))
def mprE (w : M (List D)) : M D := m2 (fEq false) (mLc [7] w (stN 7) (mBool (m2 (fIn true) (mAny 7) (mAny 6))) (mFro 7)) (mLst (mNil))
def mprP : M (List D) := mItL (mCall 2 r_law_parts_of_size (mCons (mFro 0) (mCons (mFro 4) (mNil))))
theorem mpr_split : mlaw_prime_right = mSeq mpa (mSeq mpb (mSeq mpc (mSeq mpd (mRet (mprE mprP))))) := rfl
def pr0 (G T : D) (p : Int) : DS := [.fro G, .fro T, .fro (.int p), .unk, .unk, .unk, .unk, .unk]
def hd04 (G due : D) (δ : DS) : Bool := match δ with
  | [.fro g, _, _, _, .fro d, _, _, _] => eqb g G && eqb d due
  | _ => false
def isTrue (d : Option D) : Bool := match d with
  | some (.bl true) => true
  | _ => false
theorem isTrue_ok {d : Option D} (h : isTrue d = true) : d = some (.bl true) := by
  unfold isTrue at h
  split at h
  · rfl
  · cases h
def nxb (o : Option Fl) (f : DS → Bool) : Bool := match o with
  | some (.nx δ) => f δ
  | _ => false
theorem nxb_ok {o : Option Fl} {f : DS → Bool} (h : nxb o f = true) : ∃ δ, o = some (.nx δ) ∧ f δ = true := by
  unfold nxb at h
  split at h
  · exact ⟨_, rfl, h⟩
  · cases h
def chkPr (G T : D) (due ps : D) (p : Int) : Bool := nxb (mprA (pr0 G T p)) fun δ => and (hd04 G due δ) (isTrue (mprE (mItL (mC ps)) δ))
theorem and_ok {a b : Bool} (h : and a b = true) : a = true ∧ b = true := by
  cases a <;> cases b <;> first | exact ⟨rfl, rfl⟩ | cases h
theorem pr_two {δ0 δ : DS} (e : mprA δ0 = some (.nx δ)) : mlaw_prime_right δ0 = mRet (mprE mprP) δ := by
  have e : mSeq mpa (mSeq mpb (mSeq mpc mpd)) δ0 = some (.nx δ) := e
  obtain ⟨δ1, a1, e⟩ := seq_nx e
  obtain ⟨δ2, a2, e⟩ := seq_nx e
  obtain ⟨δ3, a3, e⟩ := seq_nx e
  rw [mpr_split, seq_at a1, seq_at a2, seq_at a3, seq_at e]
theorem pr_w {G due ps : D} {δ : DS} (hp : r_law_parts_of_size [G, due] = some ps) (h : hd04 G due δ = true) : mprP δ = mItL (mC ps) δ := by
  unfold hd04 at h
  split at h
  · rename_i g s1 s2 s3 d s5 s6 s7
    rw [Bool.and_eq_true] at h
    obtain rfl := eqb_ok h.1
    obtain rfl := eqb_ok h.2
    unfold mprP mItL mCall
    have : (mCons (mFro 0) (mCons (mFro 4) mNil)) [SV.fro g, s1, s2, s3, SV.fro d, s5, s6, s7] = some [g, d] := rfl
    rw [this]
    show (r_law_parts_of_size [g, d]).bind lstD = (mC ps _).bind lstD
    rw [hp]
    rfl
  · cases h
theorem pr_three {δ : DS} {ps : D} (h1 : mprP δ = mItL (mC ps) δ) (h2 : mprE (mItL (mC ps)) δ = some (.bl true)) : mRet (mprE mprP) δ = some (.rt (.bl true)) := by
  have e : mprE mprP δ = mprE (mItL (mC ps)) δ := by
    unfold mprE m2
    rw [mLc_w h1]
  unfold mRet
  rw [e, h2]
  rfl
theorem pr_four {G T : D} {p : Int} (h : mlaw_prime_right (pr0 G T p) = some (.rt (.bl true))) : r_law_prime_right [G, T, .int p] = some (.bl true) := by
  have e6 : initD 8 [G, T, .int p] = pr0 G T p := rfl
  unfold r_law_prime_right runD
  rw [e6, h]
theorem chkPr_ok {G T due ps : D} {p : Int} (hp : r_law_parts_of_size [G, due] = some ps) (h : chkPr G T due ps p = true) : r_law_prime_right [G, T, .int p] = some (.bl true) := by
  unfold chkPr at h
  obtain ⟨δ, e, h⟩ := nxb_ok h
  obtain ⟨h1, h2⟩ := and_ok h
  exact pr_four ((pr_two e).trans (pr_three (pr_w hp h1) (isTrue_ok h2)))
/-! the parts that may be drawn -/
def upto (k : Nat) : List Int := (List.range k).map Int.ofNat
def menu (k : Nat) : List (List Int) := [] :: ((upto k).map fun i => [i]) ++ ((upto k).flatMap fun i => (upto k).map fun j => [i, j])
theorem mem_upto {k : Nat} {i : Int} (h0 : 0 ≤ i) (h1 : i < k) : i ∈ upto k := by
  obtain ⟨j, rfl⟩ := Int.eq_ofNat_of_zero_le h0
  exact List.mem_map.mpr ⟨j, List.mem_range.mpr (by omega), rfl⟩
theorem mem_menu {k : Nat} {ms : List Int} (h : okMs k ms) : ms ∈ menu k := by
  obtain ⟨h1, h2⟩ := h
  match ms, h1, h2 with
  | [], _, _ => exact List.mem_cons_self
  | [i], _, h2 =>
    have hi := h2 i List.mem_cons_self
    exact List.mem_append.mpr (.inl (List.mem_cons_of_mem _ (List.mem_map.mpr ⟨i, mem_upto hi.1 hi.2, rfl⟩)))
  | [i, j], _, h2 =>
    have hi := h2 i List.mem_cons_self
    have hj := h2 j (List.mem_cons_of_mem _ List.mem_cons_self)
    exact List.mem_append.mpr (.inr (List.mem_flatMap.mpr ⟨i, mem_upto hi.1 hi.2, List.mem_map.mpr ⟨j, mem_upto hj.1 hj.2, rfl⟩⟩))
  | _ :: _ :: _ :: _, h1, _ => simp at h1; omega
def odb (o : Option D) (f : D → Bool) : Bool := match o with
  | some q => f q
  | none => false
theorem odb_ok {o : Option D} {f : D → Bool} (h : odb o f = true) : ∃ q, o = some q ∧ f q = true := by
  cases o with
  | none => cases h
  | some q => exact ⟨q, rfl, h⟩
def chkMs (G : D) (parts : List D) (ms : List Int) : Bool := odb (r_law_part [G, lI ms]) fun q => parts.any fun x => eqb q x
def chkBd (δ : DS) (q : D) : Bool := nxb (mbd (.unk :: δ.set 6 (.fro q))) fun _ => true
theorem chkMs_ok {G : D} {parts : List D} {ms : List Int} (h : chkMs G parts ms = true) : ∃ q, r_law_part [G, lI ms] = some q ∧ q ∈ parts := by
  unfold chkMs at h
  obtain ⟨q, e, a⟩ := odb_ok h
  obtain ⟨x, hx, e2⟩ := List.any_eq_true.mp a
  rw [← eqb_ok e2] at hx
  exact ⟨q, e, hx⟩
theorem chkBd_ok {δ : DS} {q : D} (h : chkBd δ q = true) : ∃ δ', mbd (.unk :: δ.set 6 (.fro q)) = some (.nx δ') := by
  unfold chkBd at h
  obtain ⟨δ', e, _⟩ := nxb_ok h
  exact ⟨δ', e⟩
theorem pt_ok {G T b : D} {k : Nat} {parts : List D} (h1 : (menu k).all (chkMs G parts) = true) (h2 : parts.all (chkBd (st1 G T b (.int k))) = true) (ms : List Int) (hm : okMs k ms) :
    ∃ q, r_law_part [G, lI ms] = some q ∧ ∃ δ', mbd (.unk :: (st1 G T b (.int k)).set 6 (.fro q)) = some (.nx δ') := by
  obtain ⟨q, e, hq⟩ := chkMs_ok (List.all_eq_true.mp h1 ms (mem_menu hm))
  exact ⟨q, e, chkBd_ok (List.all_eq_true.mp h2 q hq)⟩
def chkEn (δ : DS) : Bool := match men (.unk :: δ) with
  | some (.rt (.bl true)) => true
  | _ => false
theorem chkEn_ok {δ : DS} (h : chkEn δ = true) : men (.unk :: δ) = some (.rt (.bl true)) := by
  unfold chkEn at h
  split at h
  · assumption
  · cases h
end K2

namespace K2
open PySem PySem.Spec L2 DL DN
def mv_a4 : D := (.tup [(.tup [(.int (.ofNat 1)), (.int (.ofNat 2)), (.int (.ofNat 0)), (.int (.ofNat 3))]), (.tup [(.int (.ofNat 1)), (.int (.ofNat 0)), (.int (.ofNat 3)), (.int (.ofNat 2))])])
def G_a4 : D := (.dct false [(.str (Str.ofString "moves")), (.str (Str.ofString "every")), (.str (Str.ofString "size")), (.str (Str.ofString "table")), (.str (Str.ofString "back"))] [(.tup [(.tup [(.int (.ofNat 1)), (.int (.ofNat 2)), (.int (.ofNat 0)), (.int (.ofNat 3))]), (.tup [(.int (.ofNat 1)), (.int (.ofNat 0)), (.int (.ofNat 3)), (.int (.ofNat 2))])]), (.lst [(.tup [(.int (.ofNat 0)), (.int (.ofNat 1)), (.int (.ofNat 2)), (.int (.ofNat 3))]), (.tup [(.int (.ofNat 0)), (.int (.ofNat 2)), (.int (.ofNat 3)), (.int (.ofNat 1))]), (.tup [(.int (.ofNat 0)), (.int (.ofNat 3)), (.int (.ofNat 1)), (.int (.ofNat 2))]), (.tup [(.int (.ofNat 1)), (.int (.ofNat 0)), (.int (.ofNat 3)), (.int (.ofNat 2))]), (.tup [(.int (.ofNat 1)), (.int (.ofNat 2)), (.int (.ofNat 0)), (.int (.ofNat 3))]), (.tup [(.int (.ofNat 1)), (.int (.ofNat 3)), (.int (.ofNat 2)), (.int (.ofNat 0))]), (.tup [(.int (.ofNat 2)), (.int (.ofNat 0)), (.int (.ofNat 1)), (.int (.ofNat 3))]), (.tup [(.int (.ofNat 2)), (.int (.ofNat 1)), (.int (.ofNat 3)), (.int (.ofNat 0))]), (.tup [(.int (.ofNat 2)), (.int (.ofNat 3)), (.int (.ofNat 0)), (.int (.ofNat 1))]), (.tup [(.int (.ofNat 3)), (.int (.ofNat 0)), (.int (.ofNat 2)), (.int (.ofNat 1))]), (.tup [(.int (.ofNat 3)), (.int (.ofNat 1)), (.int (.ofNat 0)), (.int (.ofNat 2))]), (.tup [(.int (.ofNat 3)), (.int (.ofNat 2)), (.int (.ofNat 1)), (.int (.ofNat 0))])]), (.int (.ofNat 12)), (.lst [(.lst [(.int (.ofNat 0)), (.int (.ofNat 1)), (.int (.ofNat 2)), (.int (.ofNat 3)), (.int (.ofNat 4)), (.int (.ofNat 5)), (.int (.ofNat 6)), (.int (.ofNat 7)), (.int (.ofNat 8)), (.int (.ofNat 9)), (.int (.ofNat 10)), (.int (.ofNat 11))]), (.lst [(.int (.ofNat 1)), (.int (.ofNat 2)), (.int (.ofNat 0)), (.int (.ofNat 6)), (.int (.ofNat 8)), (.int (.ofNat 7)), (.int (.ofNat 9)), (.int (.ofNat 11)), (.int (.ofNat 10)), (.int (.ofNat 3)), (.int (.ofNat 4)), (.int (.ofNat 5))]), (.lst [(.int (.ofNat 2)), (.int (.ofNat 0)), (.int (.ofNat 1)), (.int (.ofNat 9)), (.int (.ofNat 10)), (.int (.ofNat 11)), (.int (.ofNat 3)), (.int (.ofNat 5)), (.int (.ofNat 4)), (.int (.ofNat 6)), (.int (.ofNat 8)), (.int (.ofNat 7))]), (.lst [(.int (.ofNat 3)), (.int (.ofNat 5)), (.int (.ofNat 4)), (.int (.ofNat 0)), (.int (.ofNat 2)), (.int (.ofNat 1)), (.int (.ofNat 10)), (.int (.ofNat 9)), (.int (.ofNat 11)), (.int (.ofNat 7)), (.int (.ofNat 6)), (.int (.ofNat 8))]), (.lst [(.int (.ofNat 4)), (.int (.ofNat 3)), (.int (.ofNat 5)), (.int (.ofNat 7)), (.int (.ofNat 6)), (.int (.ofNat 8)), (.int (.ofNat 0)), (.int (.ofNat 1)), (.int (.ofNat 2)), (.int (.ofNat 10)), (.int (.ofNat 11)), (.int (.ofNat 9))]), (.lst [(.int (.ofNat 5)), (.int (.ofNat 4)), (.int (.ofNat 3)), (.int (.ofNat 10)), (.int (.ofNat 11)), (.int (.ofNat 9)), (.int (.ofNat 7)), (.int (.ofNat 8)), (.int (.ofNat 6)), (.int (.ofNat 0)), (.int (.ofNat 2)), (.int (.ofNat 1))]), (.lst [(.int (.ofNat 6)), (.int (.ofNat 7)), (.int (.ofNat 8)), (.int (.ofNat 1)), (.int (.ofNat 0)), (.int (.ofNat 2)), (.int (.ofNat 4)), (.int (.ofNat 3)), (.int (.ofNat 5)), (.int (.ofNat 11)), (.int (.ofNat 9)), (.int (.ofNat 10))]), (.lst [(.int (.ofNat 7)), (.int (.ofNat 8)), (.int (.ofNat 6)), (.int (.ofNat 4)), (.int (.ofNat 5)), (.int (.ofNat 3)), (.int (.ofNat 11)), (.int (.ofNat 10)), (.int (.ofNat 9)), (.int (.ofNat 1)), (.int (.ofNat 0)), (.int (.ofNat 2))]), (.lst [(.int (.ofNat 8)), (.int (.ofNat 6)), (.int (.ofNat 7)), (.int (.ofNat 11)), (.int (.ofNat 9)), (.int (.ofNat 10)), (.int (.ofNat 1)), (.int (.ofNat 2)), (.int (.ofNat 0)), (.int (.ofNat 4)), (.int (.ofNat 5)), (.int (.ofNat 3))]), (.lst [(.int (.ofNat 9)), (.int (.ofNat 11)), (.int (.ofNat 10)), (.int (.ofNat 2)), (.int (.ofNat 1)), (.int (.ofNat 0)), (.int (.ofNat 8)), (.int (.ofNat 6)), (.int (.ofNat 7)), (.int (.ofNat 5)), (.int (.ofNat 3)), (.int (.ofNat 4))]), (.lst [(.int (.ofNat 10)), (.int (.ofNat 9)), (.int (.ofNat 11)), (.int (.ofNat 5)), (.int (.ofNat 3)), (.int (.ofNat 4)), (.int (.ofNat 2)), (.int (.ofNat 0)), (.int (.ofNat 1)), (.int (.ofNat 8)), (.int (.ofNat 7)), (.int (.ofNat 6))]), (.lst [(.int (.ofNat 11)), (.int (.ofNat 10)), (.int (.ofNat 9)), (.int (.ofNat 8)), (.int (.ofNat 7)), (.int (.ofNat 6)), (.int (.ofNat 5)), (.int (.ofNat 4)), (.int (.ofNat 3)), (.int (.ofNat 2)), (.int (.ofNat 1)), (.int (.ofNat 0))])]), (.lst [(.int (.ofNat 0)), (.int (.ofNat 2)), (.int (.ofNat 1)), (.int (.ofNat 3)), (.int (.ofNat 6)), (.int (.ofNat 9)), (.int (.ofNat 4)), (.int (.ofNat 10)), (.int (.ofNat 8)), (.int (.ofNat 5)), (.int (.ofNat 7)), (.int (.ofNat 11))])])
def T_a4 : D := (.ins 236 [Str.ofString "_moves", Str.ofString "_members", Str.ofString "_products", Str.ofString "_inverses"] [(.tup [(.tup [(.int (.ofNat 0)), (.int (.ofNat 1)), (.int (.ofNat 2)), (.int (.ofNat 3))]), (.tup [(.int (.ofNat 0)), (.int (.ofNat 2)), (.int (.ofNat 3)), (.int (.ofNat 1))]), (.tup [(.int (.ofNat 0)), (.int (.ofNat 3)), (.int (.ofNat 1)), (.int (.ofNat 2))]), (.tup [(.int (.ofNat 1)), (.int (.ofNat 0)), (.int (.ofNat 3)), (.int (.ofNat 2))]), (.tup [(.int (.ofNat 1)), (.int (.ofNat 2)), (.int (.ofNat 0)), (.int (.ofNat 3))]), (.tup [(.int (.ofNat 1)), (.int (.ofNat 3)), (.int (.ofNat 2)), (.int (.ofNat 0))]), (.tup [(.int (.ofNat 2)), (.int (.ofNat 0)), (.int (.ofNat 1)), (.int (.ofNat 3))]), (.tup [(.int (.ofNat 2)), (.int (.ofNat 1)), (.int (.ofNat 3)), (.int (.ofNat 0))]), (.tup [(.int (.ofNat 2)), (.int (.ofNat 3)), (.int (.ofNat 0)), (.int (.ofNat 1))]), (.tup [(.int (.ofNat 3)), (.int (.ofNat 0)), (.int (.ofNat 2)), (.int (.ofNat 1))]), (.tup [(.int (.ofNat 3)), (.int (.ofNat 1)), (.int (.ofNat 0)), (.int (.ofNat 2))]), (.tup [(.int (.ofNat 3)), (.int (.ofNat 2)), (.int (.ofNat 1)), (.int (.ofNat 0))])]), (.tup [(.int (.ofNat 0)), (.int (.ofNat 1)), (.int (.ofNat 2)), (.int (.ofNat 3)), (.int (.ofNat 4)), (.int (.ofNat 5)), (.int (.ofNat 6)), (.int (.ofNat 7)), (.int (.ofNat 8)), (.int (.ofNat 9)), (.int (.ofNat 10)), (.int (.ofNat 11))]), (.tup [(.ftup [(.int (.ofNat 0)), (.int (.ofNat 1)), (.int (.ofNat 2)), (.int (.ofNat 3)), (.int (.ofNat 4)), (.int (.ofNat 5)), (.int (.ofNat 6)), (.int (.ofNat 7)), (.int (.ofNat 8)), (.int (.ofNat 9)), (.int (.ofNat 10)), (.int (.ofNat 11))]), (.ftup [(.int (.ofNat 1)), (.int (.ofNat 2)), (.int (.ofNat 0)), (.int (.ofNat 6)), (.int (.ofNat 8)), (.int (.ofNat 7)), (.int (.ofNat 9)), (.int (.ofNat 11)), (.int (.ofNat 10)), (.int (.ofNat 3)), (.int (.ofNat 4)), (.int (.ofNat 5))]), (.ftup [(.int (.ofNat 2)), (.int (.ofNat 0)), (.int (.ofNat 1)), (.int (.ofNat 9)), (.int (.ofNat 10)), (.int (.ofNat 11)), (.int (.ofNat 3)), (.int (.ofNat 5)), (.int (.ofNat 4)), (.int (.ofNat 6)), (.int (.ofNat 8)), (.int (.ofNat 7))]), (.ftup [(.int (.ofNat 3)), (.int (.ofNat 5)), (.int (.ofNat 4)), (.int (.ofNat 0)), (.int (.ofNat 2)), (.int (.ofNat 1)), (.int (.ofNat 10)), (.int (.ofNat 9)), (.int (.ofNat 11)), (.int (.ofNat 7)), (.int (.ofNat 6)), (.int (.ofNat 8))]), (.ftup [(.int (.ofNat 4)), (.int (.ofNat 3)), (.int (.ofNat 5)), (.int (.ofNat 7)), (.int (.ofNat 6)), (.int (.ofNat 8)), (.int (.ofNat 0)), (.int (.ofNat 1)), (.int (.ofNat 2)), (.int (.ofNat 10)), (.int (.ofNat 11)), (.int (.ofNat 9))]), (.ftup [(.int (.ofNat 5)), (.int (.ofNat 4)), (.int (.ofNat 3)), (.int (.ofNat 10)), (.int (.ofNat 11)), (.int (.ofNat 9)), (.int (.ofNat 7)), (.int (.ofNat 8)), (.int (.ofNat 6)), (.int (.ofNat 0)), (.int (.ofNat 2)), (.int (.ofNat 1))]), (.ftup [(.int (.ofNat 6)), (.int (.ofNat 7)), (.int (.ofNat 8)), (.int (.ofNat 1)), (.int (.ofNat 0)), (.int (.ofNat 2)), (.int (.ofNat 4)), (.int (.ofNat 3)), (.int (.ofNat 5)), (.int (.ofNat 11)), (.int (.ofNat 9)), (.int (.ofNat 10))]), (.ftup [(.int (.ofNat 7)), (.int (.ofNat 8)), (.int (.ofNat 6)), (.int (.ofNat 4)), (.int (.ofNat 5)), (.int (.ofNat 3)), (.int (.ofNat 11)), (.int (.ofNat 10)), (.int (.ofNat 9)), (.int (.ofNat 1)), (.int (.ofNat 0)), (.int (.ofNat 2))]), (.ftup [(.int (.ofNat 8)), (.int (.ofNat 6)), (.int (.ofNat 7)), (.int (.ofNat 11)), (.int (.ofNat 9)), (.int (.ofNat 10)), (.int (.ofNat 1)), (.int (.ofNat 2)), (.int (.ofNat 0)), (.int (.ofNat 4)), (.int (.ofNat 5)), (.int (.ofNat 3))]), (.ftup [(.int (.ofNat 9)), (.int (.ofNat 11)), (.int (.ofNat 10)), (.int (.ofNat 2)), (.int (.ofNat 1)), (.int (.ofNat 0)), (.int (.ofNat 8)), (.int (.ofNat 6)), (.int (.ofNat 7)), (.int (.ofNat 5)), (.int (.ofNat 3)), (.int (.ofNat 4))]), (.ftup [(.int (.ofNat 10)), (.int (.ofNat 9)), (.int (.ofNat 11)), (.int (.ofNat 5)), (.int (.ofNat 3)), (.int (.ofNat 4)), (.int (.ofNat 2)), (.int (.ofNat 0)), (.int (.ofNat 1)), (.int (.ofNat 8)), (.int (.ofNat 7)), (.int (.ofNat 6))]), (.ftup [(.int (.ofNat 11)), (.int (.ofNat 10)), (.int (.ofNat 9)), (.int (.ofNat 8)), (.int (.ofNat 7)), (.int (.ofNat 6)), (.int (.ofNat 5)), (.int (.ofNat 4)), (.int (.ofNat 3)), (.int (.ofNat 2)), (.int (.ofNat 1)), (.int (.ofNat 0))])]), (.tup [(.int (.ofNat 0)), (.int (.ofNat 2)), (.int (.ofNat 1)), (.int (.ofNat 3)), (.int (.ofNat 6)), (.int (.ofNat 9)), (.int (.ofNat 4)), (.int (.ofNat 10)), (.int (.ofNat 8)), (.int (.ofNat 5)), (.int (.ofNat 7)), (.int (.ofNat 11))])])
def b_a4 : D := (.lst [(.lst [(.int (.ofNat 0)), (.int (.ofNat 1)), (.int (.ofNat 2)), (.int (.ofNat 3)), (.int (.ofNat 4)), (.int (.ofNat 5)), (.int (.ofNat 6)), (.int (.ofNat 7)), (.int (.ofNat 8)), (.int (.ofNat 9)), (.int (.ofNat 10)), (.int (.ofNat 11))]), (.lst [(.int (.ofNat 1)), (.int (.ofNat 2)), (.int (.ofNat 0)), (.int (.ofNat 6)), (.int (.ofNat 8)), (.int (.ofNat 7)), (.int (.ofNat 9)), (.int (.ofNat 11)), (.int (.ofNat 10)), (.int (.ofNat 3)), (.int (.ofNat 4)), (.int (.ofNat 5))]), (.lst [(.int (.ofNat 2)), (.int (.ofNat 0)), (.int (.ofNat 1)), (.int (.ofNat 9)), (.int (.ofNat 10)), (.int (.ofNat 11)), (.int (.ofNat 3)), (.int (.ofNat 5)), (.int (.ofNat 4)), (.int (.ofNat 6)), (.int (.ofNat 8)), (.int (.ofNat 7))]), (.lst [(.int (.ofNat 3)), (.int (.ofNat 5)), (.int (.ofNat 4)), (.int (.ofNat 0)), (.int (.ofNat 2)), (.int (.ofNat 1)), (.int (.ofNat 10)), (.int (.ofNat 9)), (.int (.ofNat 11)), (.int (.ofNat 7)), (.int (.ofNat 6)), (.int (.ofNat 8))]), (.lst [(.int (.ofNat 4)), (.int (.ofNat 3)), (.int (.ofNat 5)), (.int (.ofNat 7)), (.int (.ofNat 6)), (.int (.ofNat 8)), (.int (.ofNat 0)), (.int (.ofNat 1)), (.int (.ofNat 2)), (.int (.ofNat 10)), (.int (.ofNat 11)), (.int (.ofNat 9))]), (.lst [(.int (.ofNat 5)), (.int (.ofNat 4)), (.int (.ofNat 3)), (.int (.ofNat 10)), (.int (.ofNat 11)), (.int (.ofNat 9)), (.int (.ofNat 7)), (.int (.ofNat 8)), (.int (.ofNat 6)), (.int (.ofNat 0)), (.int (.ofNat 2)), (.int (.ofNat 1))]), (.lst [(.int (.ofNat 6)), (.int (.ofNat 7)), (.int (.ofNat 8)), (.int (.ofNat 1)), (.int (.ofNat 0)), (.int (.ofNat 2)), (.int (.ofNat 4)), (.int (.ofNat 3)), (.int (.ofNat 5)), (.int (.ofNat 11)), (.int (.ofNat 9)), (.int (.ofNat 10))]), (.lst [(.int (.ofNat 7)), (.int (.ofNat 8)), (.int (.ofNat 6)), (.int (.ofNat 4)), (.int (.ofNat 5)), (.int (.ofNat 3)), (.int (.ofNat 11)), (.int (.ofNat 10)), (.int (.ofNat 9)), (.int (.ofNat 1)), (.int (.ofNat 0)), (.int (.ofNat 2))]), (.lst [(.int (.ofNat 8)), (.int (.ofNat 6)), (.int (.ofNat 7)), (.int (.ofNat 11)), (.int (.ofNat 9)), (.int (.ofNat 10)), (.int (.ofNat 1)), (.int (.ofNat 2)), (.int (.ofNat 0)), (.int (.ofNat 4)), (.int (.ofNat 5)), (.int (.ofNat 3))]), (.lst [(.int (.ofNat 9)), (.int (.ofNat 11)), (.int (.ofNat 10)), (.int (.ofNat 2)), (.int (.ofNat 1)), (.int (.ofNat 0)), (.int (.ofNat 8)), (.int (.ofNat 6)), (.int (.ofNat 7)), (.int (.ofNat 5)), (.int (.ofNat 3)), (.int (.ofNat 4))]), (.lst [(.int (.ofNat 10)), (.int (.ofNat 9)), (.int (.ofNat 11)), (.int (.ofNat 5)), (.int (.ofNat 3)), (.int (.ofNat 4)), (.int (.ofNat 2)), (.int (.ofNat 0)), (.int (.ofNat 1)), (.int (.ofNat 8)), (.int (.ofNat 7)), (.int (.ofNat 6))]), (.lst [(.int (.ofNat 11)), (.int (.ofNat 10)), (.int (.ofNat 9)), (.int (.ofNat 8)), (.int (.ofNat 7)), (.int (.ofNat 6)), (.int (.ofNat 5)), (.int (.ofNat 4)), (.int (.ofNat 3)), (.int (.ofNat 2)), (.int (.ofNat 1)), (.int (.ofNat 0))])])
def P_a4 : List D := [(.tup [(.int (.ofNat 0))]), (.tup [(.int (.ofNat 0)), (.int (.ofNat 1)), (.int (.ofNat 2))]), (.tup [(.int (.ofNat 0)), (.int (.ofNat 3))]), (.tup [(.int (.ofNat 0)), (.int (.ofNat 4)), (.int (.ofNat 6))]), (.tup [(.int (.ofNat 0)), (.int (.ofNat 5)), (.int (.ofNat 9))]), (.tup [(.int (.ofNat 0)), (.int (.ofNat 7)), (.int (.ofNat 10))]), (.tup [(.int (.ofNat 0)), (.int (.ofNat 8))]), (.tup [(.int (.ofNat 0)), (.int (.ofNat 11))]), (.tup [(.int (.ofNat 0)), (.int (.ofNat 1)), (.int (.ofNat 2)), (.int (.ofNat 3)), (.int (.ofNat 4)), (.int (.ofNat 5)), (.int (.ofNat 6)), (.int (.ofNat 7)), (.int (.ofNat 8)), (.int (.ofNat 9)), (.int (.ofNat 10)), (.int (.ofNat 11))]), (.tup [(.int (.ofNat 0)), (.int (.ofNat 3)), (.int (.ofNat 8)), (.int (.ofNat 11))])]
theorem mv_ok_a4 : fGet ready (.str (Str.ofString "a4")) = some (some mv_a4) := by
  have h : odb ((fGet ready (.str (Str.ofString "a4"))).bind id) (fun q => eqb q mv_a4) = true := by decide +kernel
  obtain ⟨q, e, h⟩ := odb_ok h
  obtain ⟨o, e1, e2⟩ := Option.bind_eq_some_iff.mp e
  cases e2
  rw [e1, eqb_ok h]
theorem g_a4 : r_law_group [mv_a4] = some G_a4 := oeq_ok (by decide +kernel)
theorem r_a4 : mr2 (.unk :: st0 G_a4) = some (.nx (.unk :: st1 G_a4 T_a4 b_a4 (.int (.ofNat 12)))) := nxeq_ok (by decide +kernel)
theorem z_a4 : fGetI G_a4 (.str "size") = some (.int (.ofNat 12)) := oeq_ok (by decide +kernel)
theorem d1_a4 : r_law_parts_of_size [G_a4, .int (.ofNat 1)] = some (.lst [(.tup [(.int (.ofNat 0))])]) := oeq_ok (by decide +kernel)
theorem d3_a4 : r_law_parts_of_size [G_a4, .int (.ofNat 3)] = some (.lst [(.tup [(.int (.ofNat 0)), (.int (.ofNat 1)), (.int (.ofNat 2))]), (.tup [(.int (.ofNat 0)), (.int (.ofNat 4)), (.int (.ofNat 6))]), (.tup [(.int (.ofNat 0)), (.int (.ofNat 5)), (.int (.ofNat 9))]), (.tup [(.int (.ofNat 0)), (.int (.ofNat 7)), (.int (.ofNat 10))])]) := oeq_ok (by decide +kernel)
theorem d4_a4 : r_law_parts_of_size [G_a4, .int (.ofNat 4)] = some (.lst [(.tup [(.int (.ofNat 0)), (.int (.ofNat 3)), (.int (.ofNat 8)), (.int (.ofNat 11))])]) := oeq_ok (by decide +kernel)
theorem p2_a4 : r_law_prime_right [G_a4, T_a4, .int 2] = some (.bl true) := chkPr_ok d4_a4 (by decide +kernel)
theorem p3_a4 : r_law_prime_right [G_a4, T_a4, .int 3] = some (.bl true) := chkPr_ok d3_a4 (by decide +kernel)
theorem p5_a4 : r_law_prime_right [G_a4, T_a4, .int 5] = some (.bl true) := chkPr_ok d1_a4 (by decide +kernel)
theorem p7_a4 : r_law_prime_right [G_a4, T_a4, .int 7] = some (.bl true) := chkPr_ok d1_a4 (by decide +kernel)
theorem p11_a4 : r_law_prime_right [G_a4, T_a4, .int 11] = some (.bl true) := chkPr_ok d1_a4 (by decide +kernel)
theorem p13_a4 : r_law_prime_right [G_a4, T_a4, .int 13] = some (.bl true) := chkPr_ok d1_a4 (by decide +kernel)
theorem p17_a4 : r_law_prime_right [G_a4, T_a4, .int 17] = some (.bl true) := chkPr_ok d1_a4 (by decide +kernel)
theorem p19_a4 : r_law_prime_right [G_a4, T_a4, .int 19] = some (.bl true) := chkPr_ok d1_a4 (by decide +kernel)
theorem p23_a4 : r_law_prime_right [G_a4, T_a4, .int 23] = some (.bl true) := chkPr_ok d1_a4 (by decide +kernel)
theorem p29_a4 : r_law_prime_right [G_a4, T_a4, .int 29] = some (.bl true) := chkPr_ok d1_a4 (by decide +kernel)
theorem p31_a4 : r_law_prime_right [G_a4, T_a4, .int 31] = some (.bl true) := chkPr_ok d1_a4 (by decide +kernel)
theorem m_a4 : (menu 12).all (chkMs G_a4 P_a4) = true := by decide +kernel
theorem bd_a4 : P_a4.all (chkBd (st1 G_a4 T_a4 b_a4 (.int (.ofNat 12)))) = true := by decide +kernel
theorem en_a4 : chkEn (st1 G_a4 T_a4 b_a4 (.int (.ofNat 12))) = true := by decide +kernel
theorem good_a4 : Good G_a4 T_a4 b_a4 (.ofNat 12) where
  r2 := r_a4
  n0 := by decide
  n1 := by decide
  sz := z_a4
  pr := fun p hp => by
    unfold primes at hp
    simp only [List.mem_cons, List.not_mem_nil, or_false] at hp
    rcases hp with rfl | rfl | rfl | rfl | rfl | rfl | rfl | rfl | rfl | rfl | rfl
    · exact p2_a4
    · exact p3_a4
    · exact p5_a4
    · exact p7_a4
    · exact p11_a4
    · exact p13_a4
    · exact p17_a4
    · exact p19_a4
    · exact p23_a4
    · exact p29_a4
    · exact p31_a4
  pt := pt_ok (k := 12) m_a4 bd_a4
  en := chkEn_ok en_a4
end K2

namespace K2
open PySem PySem.Spec L2 DL DN
def mv_c1 : D := (.tup [(.tup [(.int (.ofNat 0))])])
def G_c1 : D := (.dct false [(.str (Str.ofString "moves")), (.str (Str.ofString "every")), (.str (Str.ofString "size")), (.str (Str.ofString "table")), (.str (Str.ofString "back"))] [(.tup [(.tup [(.int (.ofNat 0))])]), (.lst [(.tup [(.int (.ofNat 0))])]), (.int (.ofNat 1)), (.lst [(.lst [(.int (.ofNat 0))])]), (.lst [(.int (.ofNat 0))])])
def T_c1 : D := (.ins 236 [Str.ofString "_moves", Str.ofString "_members", Str.ofString "_products", Str.ofString "_inverses"] [(.tup [(.tup [(.int (.ofNat 0))])]), (.tup [(.int (.ofNat 0))]), (.tup [(.ftup [(.int (.ofNat 0))])]), (.tup [(.int (.ofNat 0))])])
def b_c1 : D := (.lst [(.lst [(.int (.ofNat 0))])])
def P_c1 : List D := [(.tup [(.int (.ofNat 0))])]
theorem mv_ok_c1 : fGet ready (.str (Str.ofString "c1")) = some (some mv_c1) := by
  have h : odb ((fGet ready (.str (Str.ofString "c1"))).bind id) (fun q => eqb q mv_c1) = true := by decide +kernel
  obtain ⟨q, e, h⟩ := odb_ok h
  obtain ⟨o, e1, e2⟩ := Option.bind_eq_some_iff.mp e
  cases e2
  rw [e1, eqb_ok h]
theorem g_c1 : r_law_group [mv_c1] = some G_c1 := oeq_ok (by decide +kernel)
theorem r_c1 : mr2 (.unk :: st0 G_c1) = some (.nx (.unk :: st1 G_c1 T_c1 b_c1 (.int (.ofNat 1)))) := nxeq_ok (by decide +kernel)
theorem z_c1 : fGetI G_c1 (.str "size") = some (.int (.ofNat 1)) := oeq_ok (by decide +kernel)
theorem d1_c1 : r_law_parts_of_size [G_c1, .int (.ofNat 1)] = some (.lst [(.tup [(.int (.ofNat 0))])]) := oeq_ok (by decide +kernel)
theorem p2_c1 : r_law_prime_right [G_c1, T_c1, .int 2] = some (.bl true) := chkPr_ok d1_c1 (by decide +kernel)
theorem p3_c1 : r_law_prime_right [G_c1, T_c1, .int 3] = some (.bl true) := chkPr_ok d1_c1 (by decide +kernel)
theorem p5_c1 : r_law_prime_right [G_c1, T_c1, .int 5] = some (.bl true) := chkPr_ok d1_c1 (by decide +kernel)
theorem p7_c1 : r_law_prime_right [G_c1, T_c1, .int 7] = some (.bl true) := chkPr_ok d1_c1 (by decide +kernel)
theorem p11_c1 : r_law_prime_right [G_c1, T_c1, .int 11] = some (.bl true) := chkPr_ok d1_c1 (by decide +kernel)
theorem p13_c1 : r_law_prime_right [G_c1, T_c1, .int 13] = some (.bl true) := chkPr_ok d1_c1 (by decide +kernel)
theorem p17_c1 : r_law_prime_right [G_c1, T_c1, .int 17] = some (.bl true) := chkPr_ok d1_c1 (by decide +kernel)
theorem p19_c1 : r_law_prime_right [G_c1, T_c1, .int 19] = some (.bl true) := chkPr_ok d1_c1 (by decide +kernel)
theorem p23_c1 : r_law_prime_right [G_c1, T_c1, .int 23] = some (.bl true) := chkPr_ok d1_c1 (by decide +kernel)
theorem p29_c1 : r_law_prime_right [G_c1, T_c1, .int 29] = some (.bl true) := chkPr_ok d1_c1 (by decide +kernel)
theorem p31_c1 : r_law_prime_right [G_c1, T_c1, .int 31] = some (.bl true) := chkPr_ok d1_c1 (by decide +kernel)
theorem m_c1 : (menu 1).all (chkMs G_c1 P_c1) = true := by decide +kernel
theorem bd_c1 : P_c1.all (chkBd (st1 G_c1 T_c1 b_c1 (.int (.ofNat 1)))) = true := by decide +kernel
theorem en_c1 : chkEn (st1 G_c1 T_c1 b_c1 (.int (.ofNat 1))) = true := by decide +kernel
theorem good_c1 : Good G_c1 T_c1 b_c1 (.ofNat 1) where
  r2 := r_c1
  n0 := by decide
  n1 := by decide
  sz := z_c1
  pr := fun p hp => by
    unfold primes at hp
    simp only [List.mem_cons, List.not_mem_nil, or_false] at hp
    rcases hp with rfl | rfl | rfl | rfl | rfl | rfl | rfl | rfl | rfl | rfl | rfl
    · exact p2_c1
    · exact p3_c1
    · exact p5_c1
    · exact p7_c1
    · exact p11_c1
    · exact p13_c1
    · exact p17_c1
    · exact p19_c1
    · exact p23_c1
    · exact p29_c1
    · exact p31_c1
  pt := pt_ok (k := 1) m_c1 bd_c1
  en := chkEn_ok en_c1
end K2

namespace K2
open PySem PySem.Spec L2 DL DN
def mv_c2 : D := (.tup [(.tup [(.int (.ofNat 1)), (.int (.ofNat 0))])])
def G_c2 : D := (.dct false [(.str (Str.ofString "moves")), (.str (Str.ofString "every")), (.str (Str.ofString "size")), (.str (Str.ofString "table")), (.str (Str.ofString "back"))] [(.tup [(.tup [(.int (.ofNat 1)), (.int (.ofNat 0))])]), (.lst [(.tup [(.int (.ofNat 0)), (.int (.ofNat 1))]), (.tup [(.int (.ofNat 1)), (.int (.ofNat 0))])]), (.int (.ofNat 2)), (.lst [(.lst [(.int (.ofNat 0)), (.int (.ofNat 1))]), (.lst [(.int (.ofNat 1)), (.int (.ofNat 0))])]), (.lst [(.int (.ofNat 0)), (.int (.ofNat 1))])])
def T_c2 : D := (.ins 236 [Str.ofString "_moves", Str.ofString "_members", Str.ofString "_products", Str.ofString "_inverses"] [(.tup [(.tup [(.int (.ofNat 0)), (.int (.ofNat 1))]), (.tup [(.int (.ofNat 1)), (.int (.ofNat 0))])]), (.tup [(.int (.ofNat 0)), (.int (.ofNat 1))]), (.tup [(.ftup [(.int (.ofNat 0)), (.int (.ofNat 1))]), (.ftup [(.int (.ofNat 1)), (.int (.ofNat 0))])]), (.tup [(.int (.ofNat 0)), (.int (.ofNat 1))])])
def b_c2 : D := (.lst [(.lst [(.int (.ofNat 0)), (.int (.ofNat 1))]), (.lst [(.int (.ofNat 1)), (.int (.ofNat 0))])])
def P_c2 : List D := [(.tup [(.int (.ofNat 0))]), (.tup [(.int (.ofNat 0)), (.int (.ofNat 1))])]
theorem mv_ok_c2 : fGet ready (.str (Str.ofString "c2")) = some (some mv_c2) := by
  have h : odb ((fGet ready (.str (Str.ofString "c2"))).bind id) (fun q => eqb q mv_c2) = true := by decide +kernel
  obtain ⟨q, e, h⟩ := odb_ok h
  obtain ⟨o, e1, e2⟩ := Option.bind_eq_some_iff.mp e
  cases e2
  rw [e1, eqb_ok h]
theorem g_c2 : r_law_group [mv_c2] = some G_c2 := oeq_ok (by decide +kernel)
theorem r_c2 : mr2 (.unk :: st0 G_c2) = some (.nx (.unk :: st1 G_c2 T_c2 b_c2 (.int (.ofNat 2)))) := nxeq_ok (by decide +kernel)
theorem z_c2 : fGetI G_c2 (.str "size") = some (.int (.ofNat 2)) := oeq_ok (by decide +kernel)
theorem d1_c2 : r_law_parts_of_size [G_c2, .int (.ofNat 1)] = some (.lst [(.tup [(.int (.ofNat 0))])]) := oeq_ok (by decide +kernel)
theorem d2_c2 : r_law_parts_of_size [G_c2, .int (.ofNat 2)] = some (.lst [(.tup [(.int (.ofNat 0)), (.int (.ofNat 1))])]) := oeq_ok (by decide +kernel)
theorem p2_c2 : r_law_prime_right [G_c2, T_c2, .int 2] = some (.bl true) := chkPr_ok d2_c2 (by decide +kernel)
theorem p3_c2 : r_law_prime_right [G_c2, T_c2, .int 3] = some (.bl true) := chkPr_ok d1_c2 (by decide +kernel)
theorem p5_c2 : r_law_prime_right [G_c2, T_c2, .int 5] = some (.bl true) := chkPr_ok d1_c2 (by decide +kernel)
theorem p7_c2 : r_law_prime_right [G_c2, T_c2, .int 7] = some (.bl true) := chkPr_ok d1_c2 (by decide +kernel)
theorem p11_c2 : r_law_prime_right [G_c2, T_c2, .int 11] = some (.bl true) := chkPr_ok d1_c2 (by decide +kernel)
theorem p13_c2 : r_law_prime_right [G_c2, T_c2, .int 13] = some (.bl true) := chkPr_ok d1_c2 (by decide +kernel)
theorem p17_c2 : r_law_prime_right [G_c2, T_c2, .int 17] = some (.bl true) := chkPr_ok d1_c2 (by decide +kernel)
theorem p19_c2 : r_law_prime_right [G_c2, T_c2, .int 19] = some (.bl true) := chkPr_ok d1_c2 (by decide +kernel)
theorem p23_c2 : r_law_prime_right [G_c2, T_c2, .int 23] = some (.bl true) := chkPr_ok d1_c2 (by decide +kernel)
theorem p29_c2 : r_law_prime_right [G_c2, T_c2, .int 29] = some (.bl true) := chkPr_ok d1_c2 (by decide +kernel)
theorem p31_c2 : r_law_prime_right [G_c2, T_c2, .int 31] = some (.bl true) := chkPr_ok d1_c2 (by decide +kernel)
theorem m_c2 : (menu 2).all (chkMs G_c2 P_c2) = true := by decide +kernel
theorem bd_c2 : P_c2.all (chkBd (st1 G_c2 T_c2 b_c2 (.int (.ofNat 2)))) = true := by decide +kernel
theorem en_c2 : chkEn (st1 G_c2 T_c2 b_c2 (.int (.ofNat 2))) = true := by decide +kernel
theorem good_c2 : Good G_c2 T_c2 b_c2 (.ofNat 2) where
  r2 := r_c2
  n0 := by decide
  n1 := by decide
  sz := z_c2
  pr := fun p hp => by
    unfold primes at hp
    simp only [List.mem_cons, List.not_mem_nil, or_false] at hp
    rcases hp with rfl | rfl | rfl | rfl | rfl | rfl | rfl | rfl | rfl | rfl | rfl
    · exact p2_c2
    · exact p3_c2
    · exact p5_c2
    · exact p7_c2
    · exact p11_c2
    · exact p13_c2
    · exact p17_c2
    · exact p19_c2
    · exact p23_c2
    · exact p29_c2
    · exact p31_c2
  pt := pt_ok (k := 2) m_c2 bd_c2
  en := chkEn_ok en_c2
end K2

namespace K2
open PySem PySem.Spec L2 DL DN
def mv_c2c4 : D := (.tup [(.tup [(.int (.ofNat 1)), (.int (.ofNat 0)), (.int (.ofNat 2)), (.int (.ofNat 3)), (.int (.ofNat 4)), (.int (.ofNat 5))]), (.tup [(.int (.ofNat 0)), (.int (.ofNat 1)), (.int (.ofNat 3)), (.int (.ofNat 4)), (.int (.ofNat 5)), (.int (.ofNat 2))])])
def G_c2c4 : D := (.dct false [(.str (Str.ofString "moves")), (.str (Str.ofString "every")), (.str (Str.ofString "size")), (.str (Str.ofString "table")), (.str (Str.ofString "back"))] [(.tup [(.tup [(.int (.ofNat 1)), (.int (.ofNat 0)), (.int (.ofNat 2)), (.int (.ofNat 3)), (.int (.ofNat 4)), (.int (.ofNat 5))]), (.tup [(.int (.ofNat 0)), (.int (.ofNat 1)), (.int (.ofNat 3)), (.int (.ofNat 4)), (.int (.ofNat 5)), (.int (.ofNat 2))])]), (.lst [(.tup [(.int (.ofNat 0)), (.int (.ofNat 1)), (.int (.ofNat 2)), (.int (.ofNat 3)), (.int (.ofNat 4)), (.int (.ofNat 5))]), (.tup [(.int (.ofNat 0)), (.int (.ofNat 1)), (.int (.ofNat 3)), (.int (.ofNat 4)), (.int (.ofNat 5)), (.int (.ofNat 2))]), (.tup [(.int (.ofNat 0)), (.int (.ofNat 1)), (.int (.ofNat 4)), (.int (.ofNat 5)), (.int (.ofNat 2)), (.int (.ofNat 3))]), (.tup [(.int (.ofNat 0)), (.int (.ofNat 1)), (.int (.ofNat 5)), (.int (.ofNat 2)), (.int (.ofNat 3)), (.int (.ofNat 4))]), (.tup [(.int (.ofNat 1)), (.int (.ofNat 0)), (.int (.ofNat 2)), (.int (.ofNat 3)), (.int (.ofNat 4)), (.int (.ofNat 5))]), (.tup [(.int (.ofNat 1)), (.int (.ofNat 0)), (.int (.ofNat 3)), (.int (.ofNat 4)), (.int (.ofNat 5)), (.int (.ofNat 2))]), (.tup [(.int (.ofNat 1)), (.int (.ofNat 0)), (.int (.ofNat 4)), (.int (.ofNat 5)), (.int (.ofNat 2)), (.int (.ofNat 3))]), (.tup [(.int (.ofNat 1)), (.int (.ofNat 0)), (.int (.ofNat 5)), (.int (.ofNat 2)), (.int (.ofNat 3)), (.int (.ofNat 4))])]), (.int (.ofNat 8)), (.lst [(.lst [(.int (.ofNat 0)), (.int (.ofNat 1)), (.int (.ofNat 2)), (.int (.ofNat 3)), (.int (.ofNat 4)), (.int (.ofNat 5)), (.int (.ofNat 6)), (.int (.ofNat 7))]), (.lst [(.int (.ofNat 1)), (.int (.ofNat 2)), (.int (.ofNat 3)), (.int (.ofNat 0)), (.int (.ofNat 5)), (.int (.ofNat 6)), (.int (.ofNat 7)), (.int (.ofNat 4))]), (.lst [(.int (.ofNat 2)), (.int (.ofNat 3)), (.int (.ofNat 0)), (.int (.ofNat 1)), (.int (.ofNat 6)), (.int (.ofNat 7)), (.int (.ofNat 4)), (.int (.ofNat 5))]), (.lst [(.int (.ofNat 3)), (.int (.ofNat 0)), (.int (.ofNat 1)), (.int (.ofNat 2)), (.int (.ofNat 7)), (.int (.ofNat 4)), (.int (.ofNat 5)), (.int (.ofNat 6))]), (.lst [(.int (.ofNat 4)), (.int (.ofNat 5)), (.int (.ofNat 6)), (.int (.ofNat 7)), (.int (.ofNat 0)), (.int (.ofNat 1)), (.int (.ofNat 2)), (.int (.ofNat 3))]), (.lst [(.int (.ofNat 5)), (.int (.ofNat 6)), (.int (.ofNat 7)), (.int (.ofNat 4)), (.int (.ofNat 1)), (.int (.ofNat 2)), (.int (.ofNat 3)), (.int (.ofNat 0))]), (.lst [(.int (.ofNat 6)), (.int (.ofNat 7)), (.int (.ofNat 4)), (.int (.ofNat 5)), (.int (.ofNat 2)), (.int (.ofNat 3)), (.int (.ofNat 0)), (.int (.ofNat 1))]), (.lst [(.int (.ofNat 7)), (.int (.ofNat 4)), (.int (.ofNat 5)), (.int (.ofNat 6)), (.int (.ofNat 3)), (.int (.ofNat 0)), (.int (.ofNat 1)), (.int (.ofNat 2))])]), (.lst [(.int (.ofNat 0)), (.int (.ofNat 3)), (.int (.ofNat 2)), (.int (.ofNat 1)), (.int (.ofNat 4)), (.int (.ofNat 7)), (.int (.ofNat 6)), (.int (.ofNat 5))])])
def T_c2c4 : D := (.ins 236 [Str.ofString "_moves", Str.ofString "_members", Str.ofString "_products", Str.ofString "_inverses"] [(.tup [(.tup [(.int (.ofNat 0)), (.int (.ofNat 1)), (.int (.ofNat 2)), (.int (.ofNat 3)), (.int (.ofNat 4)), (.int (.ofNat 5))]), (.tup [(.int (.ofNat 0)), (.int (.ofNat 1)), (.int (.ofNat 3)), (.int (.ofNat 4)), (.int (.ofNat 5)), (.int (.ofNat 2))]), (.tup [(.int (.ofNat 0)), (.int (.ofNat 1)), (.int (.ofNat 4)), (.int (.ofNat 5)), (.int (.ofNat 2)), (.int (.ofNat 3))]), (.tup [(.int (.ofNat 0)), (.int (.ofNat 1)), (.int (.ofNat 5)), (.int (.ofNat 2)), (.int (.ofNat 3)), (.int (.ofNat 4))]), (.tup [(.int (.ofNat 1)), (.int (.ofNat 0)), (.int (.ofNat 2)), (.int (.ofNat 3)), (.int (.ofNat 4)), (.int (.ofNat 5))]), (.tup [(.int (.ofNat 1)), (.int (.ofNat 0)), (.int (.ofNat 3)), (.int (.ofNat 4)), (.int (.ofNat 5)), (.int (.ofNat 2))]), (.tup [(.int (.ofNat 1)), (.int (.ofNat 0)), (.int (.ofNat 4)), (.int (.ofNat 5)), (.int (.ofNat 2)), (.int (.ofNat 3))]), (.tup [(.int (.ofNat 1)), (.int (.ofNat 0)), (.int (.ofNat 5)), (.int (.ofNat 2)), (.int (.ofNat 3)), (.int (.ofNat 4))])]), (.tup [(.int (.ofNat 0)), (.int (.ofNat 1)), (.int (.ofNat 2)), (.int (.ofNat 3)), (.int (.ofNat 4)), (.int (.ofNat 5)), (.int (.ofNat 6)), (.int (.ofNat 7))]), (.tup [(.ftup [(.int (.ofNat 0)), (.int (.ofNat 1)), (.int (.ofNat 2)), (.int (.ofNat 3)), (.int (.ofNat 4)), (.int (.ofNat 5)), (.int (.ofNat 6)), (.int (.ofNat 7))]), (.ftup [(.int (.ofNat 1)), (.int (.ofNat 2)), (.int (.ofNat 3)), (.int (.ofNat 0)), (.int (.ofNat 5)), (.int (.ofNat 6)), (.int (.ofNat 7)), (.int (.ofNat 4))]), (.ftup [(.int (.ofNat 2)), (.int (.ofNat 3)), (.int (.ofNat 0)), (.int (.ofNat 1)), (.int (.ofNat 6)), (.int (.ofNat 7)), (.int (.ofNat 4)), (.int (.ofNat 5))]), (.ftup [(.int (.ofNat 3)), (.int (.ofNat 0)), (.int (.ofNat 1)), (.int (.ofNat 2)), (.int (.ofNat 7)), (.int (.ofNat 4)), (.int (.ofNat 5)), (.int (.ofNat 6))]), (.ftup [(.int (.ofNat 4)), (.int (.ofNat 5)), (.int (.ofNat 6)), (.int (.ofNat 7)), (.int (.ofNat 0)), (.int (.ofNat 1)), (.int (.ofNat 2)), (.int (.ofNat 3))]), (.ftup [(.int (.ofNat 5)), (.int (.ofNat 6)), (.int (.ofNat 7)), (.int (.ofNat 4)), (.int (.ofNat 1)), (.int (.ofNat 2)), (.int (.ofNat 3)), (.int (.ofNat 0))]), (.ftup [(.int (.ofNat 6)), (.int (.ofNat 7)), (.int (.ofNat 4)), (.int (.ofNat 5)), (.int (.ofNat 2)), (.int (.ofNat 3)), (.int (.ofNat 0)), (.int (.ofNat 1))]), (.ftup [(.int (.ofNat 7)), (.int (.ofNat 4)), (.int (.ofNat 5)), (.int (.ofNat 6)), (.int (.ofNat 3)), (.int (.ofNat 0)), (.int (.ofNat 1)), (.int (.ofNat 2))])]), (.tup [(.int (.ofNat 0)), (.int (.ofNat 3)), (.int (.ofNat 2)), (.int (.ofNat 1)), (.int (.ofNat 4)), (.int (.ofNat 7)), (.int (.ofNat 6)), (.int (.ofNat 5))])])
def b_c2c4 : D := (.lst [(.lst [(.int (.ofNat 0)), (.int (.ofNat 1)), (.int (.ofNat 2)), (.int (.ofNat 3)), (.int (.ofNat 4)), (.int (.ofNat 5)), (.int (.ofNat 6)), (.int (.ofNat 7))]), (.lst [(.int (.ofNat 1)), (.int (.ofNat 2)), (.int (.ofNat 3)), (.int (.ofNat 0)), (.int (.ofNat 5)), (.int (.ofNat 6)), (.int (.ofNat 7)), (.int (.ofNat 4))]), (.lst [(.int (.ofNat 2)), (.int (.ofNat 3)), (.int (.ofNat 0)), (.int (.ofNat 1)), (.int (.ofNat 6)), (.int (.ofNat 7)), (.int (.ofNat 4)), (.int (.ofNat 5))]), (.lst [(.int (.ofNat 3)), (.int (.ofNat 0)), (.int (.ofNat 1)), (.int (.ofNat 2)), (.int (.ofNat 7)), (.int (.ofNat 4)), (.int (.ofNat 5)), (.int (.ofNat 6))]), (.lst [(.int (.ofNat 4)), (.int (.ofNat 5)), (.int (.ofNat 6)), (.int (.ofNat 7)), (.int (.ofNat 0)), (.int (.ofNat 1)), (.int (.ofNat 2)), (.int (.ofNat 3))]), (.lst [(.int (.ofNat 5)), (.int (.ofNat 6)), (.int (.ofNat 7)), (.int (.ofNat 4)), (.int (.ofNat 1)), (.int (.ofNat 2)), (.int (.ofNat 3)), (.int (.ofNat 0))]), (.lst [(.int (.ofNat 6)), (.int (.ofNat 7)), (.int (.ofNat 4)), (.int (.ofNat 5)), (.int (.ofNat 2)), (.int (.ofNat 3)), (.int (.ofNat 0)), (.int (.ofNat 1))]), (.lst [(.int (.ofNat 7)), (.int (.ofNat 4)), (.int (.ofNat 5)), (.int (.ofNat 6)), (.int (.ofNat 3)), (.int (.ofNat 0)), (.int (.ofNat 1)), (.int (.ofNat 2))])])
def P_c2c4 : List D := [(.tup [(.int (.ofNat 0))]), (.tup [(.int (.ofNat 0)), (.int (.ofNat 1)), (.int (.ofNat 2)), (.int (.ofNat 3))]), (.tup [(.int (.ofNat 0)), (.int (.ofNat 2))]), (.tup [(.int (.ofNat 0)), (.int (.ofNat 4))]), (.tup [(.int (.ofNat 0)), (.int (.ofNat 2)), (.int (.ofNat 5)), (.int (.ofNat 7))]), (.tup [(.int (.ofNat 0)), (.int (.ofNat 6))]), (.tup [(.int (.ofNat 0)), (.int (.ofNat 1)), (.int (.ofNat 2)), (.int (.ofNat 3)), (.int (.ofNat 4)), (.int (.ofNat 5)), (.int (.ofNat 6)), (.int (.ofNat 7))]), (.tup [(.int (.ofNat 0)), (.int (.ofNat 2)), (.int (.ofNat 4)), (.int (.ofNat 6))])]
theorem mv_ok_c2c4 : fGet ready (.str (Str.ofString "c2c4")) = some (some mv_c2c4) := by
  have h : odb ((fGet ready (.str (Str.ofString "c2c4"))).bind id) (fun q => eqb q mv_c2c4) = true := by decide +kernel
  obtain ⟨q, e, h⟩ := odb_ok h
  obtain ⟨o, e1, e2⟩ := Option.bind_eq_some_iff.mp e
  cases e2
  rw [e1, eqb_ok h]
theorem g_c2c4 : r_law_group [mv_c2c4] = some G_c2c4 := oeq_ok (by decide +kernel)
theorem r_c2c4 : mr2 (.unk :: st0 G_c2c4) = some (.nx (.unk :: st1 G_c2c4 T_c2c4 b_c2c4 (.int (.ofNat 8)))) := nxeq_ok (by decide +kernel)
theorem z_c2c4 : fGetI G_c2c4 (.str "size") = some (.int (.ofNat 8)) := oeq_ok (by decide +kernel)
theorem d1_c2c4 : r_law_parts_of_size [G_c2c4, .int (.ofNat 1)] = some (.lst [(.tup [(.int (.ofNat 0))])]) := oeq_ok (by decide +kernel)
theorem d8_c2c4 : r_law_parts_of_size [G_c2c4, .int (.ofNat 8)] = some (.lst [(.tup [(.int (.ofNat 0)), (.int (.ofNat 1)), (.int (.ofNat 2)), (.int (.ofNat 3)), (.int (.ofNat 4)), (.int (.ofNat 5)), (.int (.ofNat 6)), (.int (.ofNat 7))])]) := oeq_ok (by decide +kernel)
theorem p2_c2c4 : r_law_prime_right [G_c2c4, T_c2c4, .int 2] = some (.bl true) := chkPr_ok d8_c2c4 (by decide +kernel)
theorem p3_c2c4 : r_law_prime_right [G_c2c4, T_c2c4, .int 3] = some (.bl true) := chkPr_ok d1_c2c4 (by decide +kernel)
theorem p5_c2c4 : r_law_prime_right [G_c2c4, T_c2c4, .int 5] = some (.bl true) := chkPr_ok d1_c2c4 (by decide +kernel)
theorem p7_c2c4 : r_law_prime_right [G_c2c4, T_c2c4, .int 7] = some (.bl true) := chkPr_ok d1_c2c4 (by decide +kernel)
theorem p11_c2c4 : r_law_prime_right [G_c2c4, T_c2c4, .int 11] = some (.bl true) := chkPr_ok d1_c2c4 (by decide +kernel)
theorem p13_c2c4 : r_law_prime_right [G_c2c4, T_c2c4, .int 13] = some (.bl true) := chkPr_ok d1_c2c4 (by decide +kernel)
theorem p17_c2c4 : r_law_prime_right [G_c2c4, T_c2c4, .int 17] = some (.bl true) := chkPr_ok d1_c2c4 (by decide +kernel)
theorem p19_c2c4 : r_law_prime_right [G_c2c4, T_c2c4, .int 19] = some (.bl true) := chkPr_ok d1_c2c4 (by decide +kernel)
theorem p23_c2c4 : r_law_prime_right [G_c2c4, T_c2c4, .int 23] = some (.bl true) := chkPr_ok d1_c2c4 (by decide +kernel)
theorem p29_c2c4 : r_law_prime_right [G_c2c4, T_c2c4, .int 29] = some (.bl true) := chkPr_ok d1_c2c4 (by decide +kernel)
theorem p31_c2c4 : r_law_prime_right [G_c2c4, T_c2c4, .int 31] = some (.bl true) := chkPr_ok d1_c2c4 (by decide +kernel)
theorem m_c2c4 : (menu 8).all (chkMs G_c2c4 P_c2c4) = true := by decide +kernel
theorem bd_c2c4 : P_c2c4.all (chkBd (st1 G_c2c4 T_c2c4 b_c2c4 (.int (.ofNat 8)))) = true := by decide +kernel
theorem en_c2c4 : chkEn (st1 G_c2c4 T_c2c4 b_c2c4 (.int (.ofNat 8))) = true := by decide +kernel
theorem good_c2c4 : Good G_c2c4 T_c2c4 b_c2c4 (.ofNat 8) where
  r2 := r_c2c4
  n0 := by decide
  n1 := by decide
  sz := z_c2c4
  pr := fun p hp => by
    unfold primes at hp
    simp only [List.mem_cons, List.not_mem_nil, or_false] at hp
    rcases hp with rfl | rfl | rfl | rfl | rfl | rfl | rfl | rfl | rfl | rfl | rfl
    · exact p2_c2c4
    · exact p3_c2c4
    · exact p5_c2c4
    · exact p7_c2c4
    · exact p11_c2c4
    · exact p13_c2c4
    · exact p17_c2c4
    · exact p19_c2c4
    · exact p23_c2c4
    · exact p29_c2c4
    · exact p31_c2c4
  pt := pt_ok (k := 8) m_c2c4 bd_c2c4
  en := chkEn_ok en_c2c4
end K2

namespace K2
open PySem PySem.Spec L2 DL DN
def mv_c3 : D := (.tup [(.tup [(.int (.ofNat 1)), (.int (.ofNat 2)), (.int (.ofNat 0))])])
def G_c3 : D := (.dct false [(.str (Str.ofString "moves")), (.str (Str.ofString "every")), (.str (Str.ofString "size")), (.str (Str.ofString "table")), (.str (Str.ofString "back"))] [(.tup [(.tup [(.int (.ofNat 1)), (.int (.ofNat 2)), (.int (.ofNat 0))])]), (.lst [(.tup [(.int (.ofNat 0)), (.int (.ofNat 1)), (.int (.ofNat 2))]), (.tup [(.int (.ofNat 1)), (.int (.ofNat 2)), (.int (.ofNat 0))]), (.tup [(.int (.ofNat 2)), (.int (.ofNat 0)), (.int (.ofNat 1))])]), (.int (.ofNat 3)), (.lst [(.lst [(.int (.ofNat 0)), (.int (.ofNat 1)), (.int (.ofNat 2))]), (.lst [(.int (.ofNat 1)), (.int (.ofNat 2)), (.int (.ofNat 0))]), (.lst [(.int (.ofNat 2)), (.int (.ofNat 0)), (.int (.ofNat 1))])]), (.lst [(.int (.ofNat 0)), (.int (.ofNat 2)), (.int (.ofNat 1))])])
def T_c3 : D := (.ins 236 [Str.ofString "_moves", Str.ofString "_members", Str.ofString "_products", Str.ofString "_inverses"] [(.tup [(.tup [(.int (.ofNat 0)), (.int (.ofNat 1)), (.int (.ofNat 2))]), (.tup [(.int (.ofNat 1)), (.int (.ofNat 2)), (.int (.ofNat 0))]), (.tup [(.int (.ofNat 2)), (.int (.ofNat 0)), (.int (.ofNat 1))])]), (.tup [(.int (.ofNat 0)), (.int (.ofNat 1)), (.int (.ofNat 2))]), (.tup [(.ftup [(.int (.ofNat 0)), (.int (.ofNat 1)), (.int (.ofNat 2))]), (.ftup [(.int (.ofNat 1)), (.int (.ofNat 2)), (.int (.ofNat 0))]), (.ftup [(.int (.ofNat 2)), (.int (.ofNat 0)), (.int (.ofNat 1))])]), (.tup [(.int (.ofNat 0)), (.int (.ofNat 2)), (.int (.ofNat 1))])])
def b_c3 : D := (.lst [(.lst [(.int (.ofNat 0)), (.int (.ofNat 1)), (.int (.ofNat 2))]), (.lst [(.int (.ofNat 1)), (.int (.ofNat 2)), (.int (.ofNat 0))]), (.lst [(.int (.ofNat 2)), (.int (.ofNat 0)), (.int (.ofNat 1))])])
def P_c3 : List D := [(.tup [(.int (.ofNat 0))]), (.tup [(.int (.ofNat 0)), (.int (.ofNat 1)), (.int (.ofNat 2))])]
theorem mv_ok_c3 : fGet ready (.str (Str.ofString "c3")) = some (some mv_c3) := by
  have h : odb ((fGet ready (.str (Str.ofString "c3"))).bind id) (fun q => eqb q mv_c3) = true := by decide +kernel
  obtain ⟨q, e, h⟩ := odb_ok h
  obtain ⟨o, e1, e2⟩ := Option.bind_eq_some_iff.mp e
  cases e2
  rw [e1, eqb_ok h]
theorem g_c3 : r_law_group [mv_c3] = some G_c3 := oeq_ok (by decide +kernel)
theorem r_c3 : mr2 (.unk :: st0 G_c3) = some (.nx (.unk :: st1 G_c3 T_c3 b_c3 (.int (.ofNat 3)))) := nxeq_ok (by decide +kernel)
theorem z_c3 : fGetI G_c3 (.str "size") = some (.int (.ofNat 3)) := oeq_ok (by decide +kernel)
theorem d1_c3 : r_law_parts_of_size [G_c3, .int (.ofNat 1)] = some (.lst [(.tup [(.int (.ofNat 0))])]) := oeq_ok (by decide +kernel)
theorem d3_c3 : r_law_parts_of_size [G_c3, .int (.ofNat 3)] = some (.lst [(.tup [(.int (.ofNat 0)), (.int (.ofNat 1)), (.int (.ofNat 2))])]) := oeq_ok (by decide +kernel)
theorem p2_c3 : r_law_prime_right [G_c3, T_c3, .int 2] = some (.bl true) := chkPr_ok d1_c3 (by decide +kernel)
theorem p3_c3 : r_law_prime_right [G_c3, T_c3, .int 3] = some (.bl true) := chkPr_ok d3_c3 (by decide +kernel)
theorem p5_c3 : r_law_prime_right [G_c3, T_c3, .int 5] = some (.bl true) := chkPr_ok d1_c3 (by decide +kernel)
theorem p7_c3 : r_law_prime_right [G_c3, T_c3, .int 7] = some (.bl true) := chkPr_ok d1_c3 (by decide +kernel)
theorem p11_c3 : r_law_prime_right [G_c3, T_c3, .int 11] = some (.bl true) := chkPr_ok d1_c3 (by decide +kernel)
theorem p13_c3 : r_law_prime_right [G_c3, T_c3, .int 13] = some (.bl true) := chkPr_ok d1_c3 (by decide +kernel)
theorem p17_c3 : r_law_prime_right [G_c3, T_c3, .int 17] = some (.bl true) := chkPr_ok d1_c3 (by decide +kernel)
theorem p19_c3 : r_law_prime_right [G_c3, T_c3, .int 19] = some (.bl true) := chkPr_ok d1_c3 (by decide +kernel)
theorem p23_c3 : r_law_prime_right [G_c3, T_c3, .int 23] = some (.bl true) := chkPr_ok d1_c3 (by decide +kernel)
theorem p29_c3 : r_law_prime_right [G_c3, T_c3, .int 29] = some (.bl true) := chkPr_ok d1_c3 (by decide +kernel)
theorem p31_c3 : r_law_prime_right [G_c3, T_c3, .int 31] = some (.bl true) := chkPr_ok d1_c3 (by decide +kernel)
theorem m_c3 : (menu 3).all (chkMs G_c3 P_c3) = true := by decide +kernel
theorem bd_c3 : P_c3.all (chkBd (st1 G_c3 T_c3 b_c3 (.int (.ofNat 3)))) = true := by decide +kernel
theorem en_c3 : chkEn (st1 G_c3 T_c3 b_c3 (.int (.ofNat 3))) = true := by decide +kernel
theorem good_c3 : Good G_c3 T_c3 b_c3 (.ofNat 3) where
  r2 := r_c3
  n0 := by decide
  n1 := by decide
  sz := z_c3
  pr := fun p hp => by
    unfold primes at hp
    simp only [List.mem_cons, List.not_mem_nil, or_false] at hp
    rcases hp with rfl | rfl | rfl | rfl | rfl | rfl | rfl | rfl | rfl | rfl | rfl
    · exact p2_c3
    · exact p3_c3
    · exact p5_c3
    · exact p7_c3
    · exact p11_c3
    · exact p13_c3
    · exact p17_c3
    · exact p19_c3
    · exact p23_c3
    · exact p29_c3
    · exact p31_c3
  pt := pt_ok (k := 3) m_c3 bd_c3
  en := chkEn_ok en_c3
end K2

namespace K2
open PySem PySem.Spec L2 DL DN
def mv_c3c3 : D := (.tup [(.tup [(.int (.ofNat 1)), (.int (.ofNat 2)), (.int (.ofNat 0)), (.int (.ofNat 3)), (.int (.ofNat 4)), (.int (.ofNat 5))]), (.tup [(.int (.ofNat 0)), (.int (.ofNat 1)), (.int (.ofNat 2)), (.int (.ofNat 4)), (.int (.ofNat 5)), (.int (.ofNat 3))])])
def G_c3c3 : D := (.dct false [(.str (Str.ofString "moves")), (.str (Str.ofString "every")), (.str (Str.ofString "size")), (.str (Str.ofString "table")), (.str (Str.ofString "back"))] [(.tup [(.tup [(.int (.ofNat 1)), (.int (.ofNat 2)), (.int (.ofNat 0)), (.int (.ofNat 3)), (.int (.ofNat 4)), (.int (.ofNat 5))]), (.tup [(.int (.ofNat 0)), (.int (.ofNat 1)), (.int (.ofNat 2)), (.int (.ofNat 4)), (.int (.ofNat 5)), (.int (.ofNat 3))])]), (.lst [(.tup [(.int (.ofNat 0)), (.int (.ofNat 1)), (.int (.ofNat 2)), (.int (.ofNat 3)), (.int (.ofNat 4)), (.int (.ofNat 5))]), (.tup [(.int (.ofNat 0)), (.int (.ofNat 1)), (.int (.ofNat 2)), (.int (.ofNat 4)), (.int (.ofNat 5)), (.int (.ofNat 3))]), (.tup [(.int (.ofNat 0)), (.int (.ofNat 1)), (.int (.ofNat 2)), (.int (.ofNat 5)), (.int (.ofNat 3)), (.int (.ofNat 4))]), (.tup [(.int (.ofNat 1)), (.int (.ofNat 2)), (.int (.ofNat 0)), (.int (.ofNat 3)), (.int (.ofNat 4)), (.int (.ofNat 5))]), (.tup [(.int (.ofNat 1)), (.int (.ofNat 2)), (.int (.ofNat 0)), (.int (.ofNat 4)), (.int (.ofNat 5)), (.int (.ofNat 3))]), (.tup [(.int (.ofNat 1)), (.int (.ofNat 2)), (.int (.ofNat 0)), (.int (.ofNat 5)), (.int (.ofNat 3)), (.int (.ofNat 4))]), (.tup [(.int (.ofNat 2)), (.int (.ofNat 0)), (.int (.ofNat 1)), (.int (.ofNat 3)), (.int (.ofNat 4)), (.int (.ofNat 5))]), (.tup [(.int (.ofNat 2)), (.int (.ofNat 0)), (.int (.ofNat 1)), (.int (.ofNat 4)), (.int (.ofNat 5)), (.int (.ofNat 3))]), (.tup [(.int (.ofNat 2)), (.int (.ofNat 0)), (.int (.ofNat 1)), (.int (.ofNat 5)), (.int (.ofNat 3)), (.int (.ofNat 4))])]), (.int (.ofNat 9)), (.lst [(.lst [(.int (.ofNat 0)), (.int (.ofNat 1)), (.int (.ofNat 2)), (.int (.ofNat 3)), (.int (.ofNat 4)), (.int (.ofNat 5)), (.int (.ofNat 6)), (.int (.ofNat 7)), (.int (.ofNat 8))]), (.lst [(.int (.ofNat 1)), (.int (.ofNat 2)), (.int (.ofNat 0)), (.int (.ofNat 4)), (.int (.ofNat 5)), (.int (.ofNat 3)), (.int (.ofNat 7)), (.int (.ofNat 8)), (.int (.ofNat 6))]), (.lst [(.int (.ofNat 2)), (.int (.ofNat 0)), (.int (.ofNat 1)), (.int (.ofNat 5)), (.int (.ofNat 3)), (.int (.ofNat 4)), (.int (.ofNat 8)), (.int (.ofNat 6)), (.int (.ofNat 7))]), (.lst [(.int (.ofNat 3)), (.int (.ofNat 4)), (.int (.ofNat 5)), (.int (.ofNat 6)), (.int (.ofNat 7)), (.int (.ofNat 8)), (.int (.ofNat 0)), (.int (.ofNat 1)), (.int (.ofNat 2))]), (.lst [(.int (.ofNat 4)), (.int (.ofNat 5)), (.int (.ofNat 3)), (.int (.ofNat 7)), (.int (.ofNat 8)), (.int (.ofNat 6)), (.int (.ofNat 1)), (.int (.ofNat 2)), (.int (.ofNat 0))]), (.lst [(.int (.ofNat 5)), (.int (.ofNat 3)), (.int (.ofNat 4)), (.int (.ofNat 8)), (.int (.ofNat 6)), (.int (.ofNat 7)), (.int (.ofNat 2)), (.int (.ofNat 0)), (.int (.ofNat 1))]), (.lst [(.int (.ofNat 6)), (.int (.ofNat 7)), (.int (.ofNat 8)), (.int (.ofNat 0)), (.int (.ofNat 1)), (.int (.ofNat 2)), (.int (.ofNat 3)), (.int (.ofNat 4)), (.int (.ofNat 5))]), (.lst [(.int (.ofNat 7)), (.int (.ofNat 8)), (.int (.ofNat 6)), (.int (.ofNat 1)), (.int (.ofNat 2)), (.int (.ofNat 0)), (.int (.ofNat 4)), (.int (.ofNat 5)), (.int (.ofNat 3))]), (.lst [(.int (.ofNat 8)), (.int (.ofNat 6)), (.int (.ofNat 7)), (.int (.ofNat 2)), (.int (.ofNat 0)), (.int (.ofNat 1)), (.int (.ofNat 5)), (.int (.ofNat 3)), (.int (.ofNat 4))])]), (.lst [(.int (.ofNat 0)), (.int (.ofNat 2)), (.int (.ofNat 1)), (.int (.ofNat 6)), (.int (.ofNat 8)), (.int (.ofNat 7)), (.int (.ofNat 3)), (.int (.ofNat 5)), (.int (.ofNat 4))])])
def T_c3c3 : D := (.ins 236 [Str.ofString "_moves", Str.ofString "_members", Str.ofString "_products", Str.ofString "_inverses"] [(.tup [(.tup [(.int (.ofNat 0)), (.int (.ofNat 1)), (.int (.ofNat 2)), (.int (.ofNat 3)), (.int (.ofNat 4)), (.int (.ofNat 5))]), (.tup [(.int (.ofNat 0)), (.int (.ofNat 1)), (.int (.ofNat 2)), (.int (.ofNat 4)), (.int (.ofNat 5)), (.int (.ofNat 3))]), (.tup [(.int (.ofNat 0)), (.int (.ofNat 1)), (.int (.ofNat 2)), (.int (.ofNat 5)), (.int (.ofNat 3)), (.int (.ofNat 4))]), (.tup [(.int (.ofNat 1)), (.int (.ofNat 2)), (.int (.ofNat 0)), (.int (.ofNat 3)), (.int (.ofNat 4)), (.int (.ofNat 5))]), (.tup [(.int (.ofNat 1)), (.int (.ofNat 2)), (.int (.ofNat 0)), (.int (.ofNat 4)), (.int (.ofNat 5)), (.int (.ofNat 3))]), (.tup [(.int (.ofNat 1)), (.int (.ofNat 2)), (.int (.ofNat 0)), (.int (.ofNat 5)), (.int (.ofNat 3)), (.int (.ofNat 4))]), (.tup [(.int (.ofNat 2)), (.int (.ofNat 0)), (.int (.ofNat 1)), (.int (.ofNat 3)), (.int (.ofNat 4)), (.int (.ofNat 5))]), (.tup [(.int (.ofNat 2)), (.int (.ofNat 0)), (.int (.ofNat 1)), (.int (.ofNat 4)), (.int (.ofNat 5)), (.int (.ofNat 3))]), (.tup [(.int (.ofNat 2)), (.int (.ofNat 0)), (.int (.ofNat 1)), (.int (.ofNat 5)), (.int (.ofNat 3)), (.int (.ofNat 4))])]), (.tup [(.int (.ofNat 0)), (.int (.ofNat 1)), (.int (.ofNat 2)), (.int (.ofNat 3)), (.int (.ofNat 4)), (.int (.ofNat 5)), (.int (.ofNat 6)), (.int (.ofNat 7)), (.int (.ofNat 8))]), (.tup [(.ftup [(.int (.ofNat 0)), (.int (.ofNat 1)), (.int (.ofNat 2)), (.int (.ofNat 3)), (.int (.ofNat 4)), (.int (.ofNat 5)), (.int (.ofNat 6)), (.int (.ofNat 7)), (.int (.ofNat 8))]), (.ftup [(.int (.ofNat 1)), (.int (.ofNat 2)), (.int (.ofNat 0)), (.int (.ofNat 4)), (.int (.ofNat 5)), (.int (.ofNat 3)), (.int (.ofNat 7)), (.int (.ofNat 8)), (.int (.ofNat 6))]), (.ftup [(.int (.ofNat 2)), (.int (.ofNat 0)), (.int (.ofNat 1)), (.int (.ofNat 5)), (.int (.ofNat 3)), (.int (.ofNat 4)), (.int (.ofNat 8)), (.int (.ofNat 6)), (.int (.ofNat 7))]), (.ftup [(.int (.ofNat 3)), (.int (.ofNat 4)), (.int (.ofNat 5)), (.int (.ofNat 6)), (.int (.ofNat 7)), (.int (.ofNat 8)), (.int (.ofNat 0)), (.int (.ofNat 1)), (.int (.ofNat 2))]), (.ftup [(.int (.ofNat 4)), (.int (.ofNat 5)), (.int (.ofNat 3)), (.int (.ofNat 7)), (.int (.ofNat 8)), (.int (.ofNat 6)), (.int (.ofNat 1)), (.int (.ofNat 2)), (.int (.ofNat 0))]), (.ftup [(.int (.ofNat 5)), (.int (.ofNat 3)), (.int (.ofNat 4)), (.int (.ofNat 8)), (.int (.ofNat 6)), (.int (.ofNat 7)), (.int (.ofNat 2)), (.int (.ofNat 0)), (.int (.ofNat 1))]), (.ftup [(.int (.ofNat 6)), (.int (.ofNat 7)), (.int (.ofNat 8)), (.int (.ofNat 0)), (.int (.ofNat 1)), (.int (.ofNat 2)), (.int (.ofNat 3)), (.int (.ofNat 4)), (.int (.ofNat 5))]), (.ftup [(.int (.ofNat 7)), (.int (.ofNat 8)), (.int (.ofNat 6)), (.int (.ofNat 1)), (.int (.ofNat 2)), (.int (.ofNat 0)), (.int (.ofNat 4)), (.int (.ofNat 5)), (.int (.ofNat 3))]), (.ftup [(.int (.ofNat 8)), (.int (.ofNat 6)), (.int (.ofNat 7)), (.int (.ofNat 2)), (.int (.ofNat 0)), (.int (.ofNat 1)), (.int (.ofNat 5)), (.int (.ofNat 3)), (.int (.ofNat 4))])]), (.tup [(.int (.ofNat 0)), (.int (.ofNat 2)), (.int (.ofNat 1)), (.int (.ofNat 6)), (.int (.ofNat 8)), (.int (.ofNat 7)), (.int (.ofNat 3)), (.int (.ofNat 5)), (.int (.ofNat 4))])])
def b_c3c3 : D := (.lst [(.lst [(.int (.ofNat 0)), (.int (.ofNat 1)), (.int (.ofNat 2)), (.int (.ofNat 3)), (.int (.ofNat 4)), (.int (.ofNat 5)), (.int (.ofNat 6)), (.int (.ofNat 7)), (.int (.ofNat 8))]), (.lst [(.int (.ofNat 1)), (.int (.ofNat 2)), (.int (.ofNat 0)), (.int (.ofNat 4)), (.int (.ofNat 5)), (.int (.ofNat 3)), (.int (.ofNat 7)), (.int (.ofNat 8)), (.int (.ofNat 6))]), (.lst [(.int (.ofNat 2)), (.int (.ofNat 0)), (.int (.ofNat 1)), (.int (.ofNat 5)), (.int (.ofNat 3)), (.int (.ofNat 4)), (.int (.ofNat 8)), (.int (.ofNat 6)), (.int (.ofNat 7))]), (.lst [(.int (.ofNat 3)), (.int (.ofNat 4)), (.int (.ofNat 5)), (.int (.ofNat 6)), (.int (.ofNat 7)), (.int (.ofNat 8)), (.int (.ofNat 0)), (.int (.ofNat 1)), (.int (.ofNat 2))]), (.lst [(.int (.ofNat 4)), (.int (.ofNat 5)), (.int (.ofNat 3)), (.int (.ofNat 7)), (.int (.ofNat 8)), (.int (.ofNat 6)), (.int (.ofNat 1)), (.int (.ofNat 2)), (.int (.ofNat 0))]), (.lst [(.int (.ofNat 5)), (.int (.ofNat 3)), (.int (.ofNat 4)), (.int (.ofNat 8)), (.int (.ofNat 6)), (.int (.ofNat 7)), (.int (.ofNat 2)), (.int (.ofNat 0)), (.int (.ofNat 1))]), (.lst [(.int (.ofNat 6)), (.int (.ofNat 7)), (.int (.ofNat 8)), (.int (.ofNat 0)), (.int (.ofNat 1)), (.int (.ofNat 2)), (.int (.ofNat 3)), (.int (.ofNat 4)), (.int (.ofNat 5))]), (.lst [(.int (.ofNat 7)), (.int (.ofNat 8)), (.int (.ofNat 6)), (.int (.ofNat 1)), (.int (.ofNat 2)), (.int (.ofNat 0)), (.int (.ofNat 4)), (.int (.ofNat 5)), (.int (.ofNat 3))]), (.lst [(.int (.ofNat 8)), (.int (.ofNat 6)), (.int (.ofNat 7)), (.int (.ofNat 2)), (.int (.ofNat 0)), (.int (.ofNat 1)), (.int (.ofNat 5)), (.int (.ofNat 3)), (.int (.ofNat 4))])])
def P_c3c3 : List D := [(.tup [(.int (.ofNat 0))]), (.tup [(.int (.ofNat 0)), (.int (.ofNat 1)), (.int (.ofNat 2))]), (.tup [(.int (.ofNat 0)), (.int (.ofNat 3)), (.int (.ofNat 6))]), (.tup [(.int (.ofNat 0)), (.int (.ofNat 4)), (.int (.ofNat 8))]), (.tup [(.int (.ofNat 0)), (.int (.ofNat 5)), (.int (.ofNat 7))]), (.tup [(.int (.ofNat 0)), (.int (.ofNat 1)), (.int (.ofNat 2)), (.int (.ofNat 3)), (.int (.ofNat 4)), (.int (.ofNat 5)), (.int (.ofNat 6)), (.int (.ofNat 7)), (.int (.ofNat 8))])]
theorem mv_ok_c3c3 : fGet ready (.str (Str.ofString "c3c3")) = some (some mv_c3c3) := by
  have h : odb ((fGet ready (.str (Str.ofString "c3c3"))).bind id) (fun q => eqb q mv_c3c3) = true := by decide +kernel
  obtain ⟨q, e, h⟩ := odb_ok h
  obtain ⟨o, e1, e2⟩ := Option.bind_eq_some_iff.mp e
  cases e2
  rw [e1, eqb_ok h]
theorem g_c3c3 : r_law_group [mv_c3c3] = some G_c3c3 := oeq_ok (by decide +kernel)
theorem r_c3c3 : mr2 (.unk :: st0 G_c3c3) = some (.nx (.unk :: st1 G_c3c3 T_c3c3 b_c3c3 (.int (.ofNat 9)))) := nxeq_ok (by decide +kernel)
theorem z_c3c3 : fGetI G_c3c3 (.str "size") = some (.int (.ofNat 9)) := oeq_ok (by decide +kernel)
theorem d1_c3c3 : r_law_parts_of_size [G_c3c3, .int (.ofNat 1)] = some (.lst [(.tup [(.int (.ofNat 0))])]) := oeq_ok (by decide +kernel)
theorem d9_c3c3 : r_law_parts_of_size [G_c3c3, .int (.ofNat 9)] = some (.lst [(.tup [(.int (.ofNat 0)), (.int (.ofNat 1)), (.int (.ofNat 2)), (.int (.ofNat 3)), (.int (.ofNat 4)), (.int (.ofNat 5)), (.int (.ofNat 6)), (.int (.ofNat 7)), (.int (.ofNat 8))])]) := oeq_ok (by decide +kernel)
theorem p2_c3c3 : r_law_prime_right [G_c3c3, T_c3c3, .int 2] = some (.bl true) := chkPr_ok d1_c3c3 (by decide +kernel)
theorem p3_c3c3 : r_law_prime_right [G_c3c3, T_c3c3, .int 3] = some (.bl true) := chkPr_ok d9_c3c3 (by decide +kernel)
theorem p5_c3c3 : r_law_prime_right [G_c3c3, T_c3c3, .int 5] = some (.bl true) := chkPr_ok d1_c3c3 (by decide +kernel)
theorem p7_c3c3 : r_law_prime_right [G_c3c3, T_c3c3, .int 7] = some (.bl true) := chkPr_ok d1_c3c3 (by decide +kernel)
theorem p11_c3c3 : r_law_prime_right [G_c3c3, T_c3c3, .int 11] = some (.bl true) := chkPr_ok d1_c3c3 (by decide +kernel)
theorem p13_c3c3 : r_law_prime_right [G_c3c3, T_c3c3, .int 13] = some (.bl true) := chkPr_ok d1_c3c3 (by decide +kernel)
theorem p17_c3c3 : r_law_prime_right [G_c3c3, T_c3c3, .int 17] = some (.bl true) := chkPr_ok d1_c3c3 (by decide +kernel)
theorem p19_c3c3 : r_law_prime_right [G_c3c3, T_c3c3, .int 19] = some (.bl true) := chkPr_ok d1_c3c3 (by decide +kernel)
theorem p23_c3c3 : r_law_prime_right [G_c3c3, T_c3c3, .int 23] = some (.bl true) := chkPr_ok d1_c3c3 (by decide +kernel)
theorem p29_c3c3 : r_law_prime_right [G_c3c3, T_c3c3, .int 29] = some (.bl true) := chkPr_ok d1_c3c3 (by decide +kernel)
theorem p31_c3c3 : r_law_prime_right [G_c3c3, T_c3c3, .int 31] = some (.bl true) := chkPr_ok d1_c3c3 (by decide +kernel)
theorem m_c3c3 : (menu 9).all (chkMs G_c3c3 P_c3c3) = true := by decide +kernel
theorem bd_c3c3 : P_c3c3.all (chkBd (st1 G_c3c3 T_c3c3 b_c3c3 (.int (.ofNat 9)))) = true := by decide +kernel
theorem en_c3c3 : chkEn (st1 G_c3c3 T_c3c3 b_c3c3 (.int (.ofNat 9))) = true := by decide +kernel
theorem good_c3c3 : Good G_c3c3 T_c3c3 b_c3c3 (.ofNat 9) where
  r2 := r_c3c3
  n0 := by decide
  n1 := by decide
  sz := z_c3c3
  pr := fun p hp => by
    unfold primes at hp
    simp only [List.mem_cons, List.not_mem_nil, or_false] at hp
    rcases hp with rfl | rfl | rfl | rfl | rfl | rfl | rfl | rfl | rfl | rfl | rfl
    · exact p2_c3c3
    · exact p3_c3c3
    · exact p5_c3c3
    · exact p7_c3c3
    · exact p11_c3c3
    · exact p13_c3c3
    · exact p17_c3c3
    · exact p19_c3c3
    · exact p23_c3c3
    · exact p29_c3c3
    · exact p31_c3c3
  pt := pt_ok (k := 9) m_c3c3 bd_c3c3
  en := chkEn_ok en_c3c3
end K2

namespace K2
open PySem PySem.Spec L2 DL DN
def mv_c4 : D := (.tup [(.tup [(.int (.ofNat 1)), (.int (.ofNat 2)), (.int (.ofNat 3)), (.int (.ofNat 0))])])
def G_c4 : D := (.dct false [(.str (Str.ofString "moves")), (.str (Str.ofString "every")), (.str (Str.ofString "size")), (.str (Str.ofString "table")), (.str (Str.ofString "back"))] [(.tup [(.tup [(.int (.ofNat 1)), (.int (.ofNat 2)), (.int (.ofNat 3)), (.int (.ofNat 0))])]), (.lst [(.tup [(.int (.ofNat 0)), (.int (.ofNat 1)), (.int (.ofNat 2)), (.int (.ofNat 3))]), (.tup [(.int (.ofNat 1)), (.int (.ofNat 2)), (.int (.ofNat 3)), (.int (.ofNat 0))]), (.tup [(.int (.ofNat 2)), (.int (.ofNat 3)), (.int (.ofNat 0)), (.int (.ofNat 1))]), (.tup [(.int (.ofNat 3)), (.int (.ofNat 0)), (.int (.ofNat 1)), (.int (.ofNat 2))])]), (.int (.ofNat 4)), (.lst [(.lst [(.int (.ofNat 0)), (.int (.ofNat 1)), (.int (.ofNat 2)), (.int (.ofNat 3))]), (.lst [(.int (.ofNat 1)), (.int (.ofNat 2)), (.int (.ofNat 3)), (.int (.ofNat 0))]), (.lst [(.int (.ofNat 2)), (.int (.ofNat 3)), (.int (.ofNat 0)), (.int (.ofNat 1))]), (.lst [(.int (.ofNat 3)), (.int (.ofNat 0)), (.int (.ofNat 1)), (.int (.ofNat 2))])]), (.lst [(.int (.ofNat 0)), (.int (.ofNat 3)), (.int (.ofNat 2)), (.int (.ofNat 1))])])
def T_c4 : D := (.ins 236 [Str.ofString "_moves", Str.ofString "_members", Str.ofString "_products", Str.ofString "_inverses"] [(.tup [(.tup [(.int (.ofNat 0)), (.int (.ofNat 1)), (.int (.ofNat 2)), (.int (.ofNat 3))]), (.tup [(.int (.ofNat 1)), (.int (.ofNat 2)), (.int (.ofNat 3)), (.int (.ofNat 0))]), (.tup [(.int (.ofNat 2)), (.int (.ofNat 3)), (.int (.ofNat 0)), (.int (.ofNat 1))]), (.tup [(.int (.ofNat 3)), (.int (.ofNat 0)), (.int (.ofNat 1)), (.int (.ofNat 2))])]), (.tup [(.int (.ofNat 0)), (.int (.ofNat 1)), (.int (.ofNat 2)), (.int (.ofNat 3))]), (.tup [(.ftup [(.int (.ofNat 0)), (.int (.ofNat 1)), (.int (.ofNat 2)), (.int (.ofNat 3))]), (.ftup [(.int (.ofNat 1)), (.int (.ofNat 2)), (.int (.ofNat 3)), (.int (.ofNat 0))]), (.ftup [(.int (.ofNat 2)), (.int (.ofNat 3)), (.int (.ofNat 0)), (.int (.ofNat 1))]), (.ftup [(.int (.ofNat 3)), (.int (.ofNat 0)), (.int (.ofNat 1)), (.int (.ofNat 2))])]), (.tup [(.int (.ofNat 0)), (.int (.ofNat 3)), (.int (.ofNat 2)), (.int (.ofNat 1))])])
def b_c4 : D := (.lst [(.lst [(.int (.ofNat 0)), (.int (.ofNat 1)), (.int (.ofNat 2)), (.int (.ofNat 3))]), (.lst [(.int (.ofNat 1)), (.int (.ofNat 2)), (.int (.ofNat 3)), (.int (.ofNat 0))]), (.lst [(.int (.ofNat 2)), (.int (.ofNat 3)), (.int (.ofNat 0)), (.int (.ofNat 1))]), (.lst [(.int (.ofNat 3)), (.int (.ofNat 0)), (.int (.ofNat 1)), (.int (.ofNat 2))])])
def P_c4 : List D := [(.tup [(.int (.ofNat 0))]), (.tup [(.int (.ofNat 0)), (.int (.ofNat 1)), (.int (.ofNat 2)), (.int (.ofNat 3))]), (.tup [(.int (.ofNat 0)), (.int (.ofNat 2))])]
theorem mv_ok_c4 : fGet ready (.str (Str.ofString "c4")) = some (some mv_c4) := by
  have h : odb ((fGet ready (.str (Str.ofString "c4"))).bind id) (fun q => eqb q mv_c4) = true := by decide +kernel
  obtain ⟨q, e, h⟩ := odb_ok h
  obtain ⟨o, e1, e2⟩ := Option.bind_eq_some_iff.mp e
  cases e2
  rw [e1, eqb_ok h]
theorem g_c4 : r_law_group [mv_c4] = some G_c4 := oeq_ok (by decide +kernel)
theorem r_c4 : mr2 (.unk :: st0 G_c4) = some (.nx (.unk :: st1 G_c4 T_c4 b_c4 (.int (.ofNat 4)))) := nxeq_ok (by decide +kernel)
theorem z_c4 : fGetI G_c4 (.str "size") = some (.int (.ofNat 4)) := oeq_ok (by decide +kernel)
theorem d1_c4 : r_law_parts_of_size [G_c4, .int (.ofNat 1)] = some (.lst [(.tup [(.int (.ofNat 0))])]) := oeq_ok (by decide +kernel)
theorem d4_c4 : r_law_parts_of_size [G_c4, .int (.ofNat 4)] = some (.lst [(.tup [(.int (.ofNat 0)), (.int (.ofNat 1)), (.int (.ofNat 2)), (.int (.ofNat 3))])]) := oeq_ok (by decide +kernel)
theorem p2_c4 : r_law_prime_right [G_c4, T_c4, .int 2] = some (.bl true) := chkPr_ok d4_c4 (by decide +kernel)
theorem p3_c4 : r_law_prime_right [G_c4, T_c4, .int 3] = some (.bl true) := chkPr_ok d1_c4 (by decide +kernel)
theorem p5_c4 : r_law_prime_right [G_c4, T_c4, .int 5] = some (.bl true) := chkPr_ok d1_c4 (by decide +kernel)
theorem p7_c4 : r_law_prime_right [G_c4, T_c4, .int 7] = some (.bl true) := chkPr_ok d1_c4 (by decide +kernel)
theorem p11_c4 : r_law_prime_right [G_c4, T_c4, .int 11] = some (.bl true) := chkPr_ok d1_c4 (by decide +kernel)
theorem p13_c4 : r_law_prime_right [G_c4, T_c4, .int 13] = some (.bl true) := chkPr_ok d1_c4 (by decide +kernel)
theorem p17_c4 : r_law_prime_right [G_c4, T_c4, .int 17] = some (.bl true) := chkPr_ok d1_c4 (by decide +kernel)
theorem p19_c4 : r_law_prime_right [G_c4, T_c4, .int 19] = some (.bl true) := chkPr_ok d1_c4 (by decide +kernel)
theorem p23_c4 : r_law_prime_right [G_c4, T_c4, .int 23] = some (.bl true) := chkPr_ok d1_c4 (by decide +kernel)
theorem p29_c4 : r_law_prime_right [G_c4, T_c4, .int 29] = some (.bl true) := chkPr_ok d1_c4 (by decide +kernel)
theorem p31_c4 : r_law_prime_right [G_c4, T_c4, .int 31] = some (.bl true) := chkPr_ok d1_c4 (by decide +kernel)
theorem m_c4 : (menu 4).all (chkMs G_c4 P_c4) = true := by decide +kernel
theorem bd_c4 : P_c4.all (chkBd (st1 G_c4 T_c4 b_c4 (.int (.ofNat 4)))) = true := by decide +kernel
theorem en_c4 : chkEn (st1 G_c4 T_c4 b_c4 (.int (.ofNat 4))) = true := by decide +kernel
theorem good_c4 : Good G_c4 T_c4 b_c4 (.ofNat 4) where
  r2 := r_c4
  n0 := by decide
  n1 := by decide
  sz := z_c4
  pr := fun p hp => by
    unfold primes at hp
    simp only [List.mem_cons, List.not_mem_nil, or_false] at hp
    rcases hp with rfl | rfl | rfl | rfl | rfl | rfl | rfl | rfl | rfl | rfl | rfl
    · exact p2_c4
    · exact p3_c4
    · exact p5_c4
    · exact p7_c4
    · exact p11_c4
    · exact p13_c4
    · exact p17_c4
    · exact p19_c4
    · exact p23_c4
    · exact p29_c4
    · exact p31_c4
  pt := pt_ok (k := 4) m_c4 bd_c4
  en := chkEn_ok en_c4
end K2

namespace K2
open PySem PySem.Spec L2 DL DN
def mv_c5 : D := (.tup [(.tup [(.int (.ofNat 1)), (.int (.ofNat 2)), (.int (.ofNat 3)), (.int (.ofNat 4)), (.int (.ofNat 0))])])
def G_c5 : D := (.dct false [(.str (Str.ofString "moves")), (.str (Str.ofString "every")), (.str (Str.ofString "size")), (.str (Str.ofString "table")), (.str (Str.ofString "back"))] [(.tup [(.tup [(.int (.ofNat 1)), (.int (.ofNat 2)), (.int (.ofNat 3)), (.int (.ofNat 4)), (.int (.ofNat 0))])]), (.lst [(.tup [(.int (.ofNat 0)), (.int (.ofNat 1)), (.int (.ofNat 2)), (.int (.ofNat 3)), (.int (.ofNat 4))]), (.tup [(.int (.ofNat 1)), (.int (.ofNat 2)), (.int (.ofNat 3)), (.int (.ofNat 4)), (.int (.ofNat 0))]), (.tup [(.int (.ofNat 2)), (.int (.ofNat 3)), (.int (.ofNat 4)), (.int (.ofNat 0)), (.int (.ofNat 1))]), (.tup [(.int (.ofNat 3)), (.int (.ofNat 4)), (.int (.ofNat 0)), (.int (.ofNat 1)), (.int (.ofNat 2))]), (.tup [(.int (.ofNat 4)), (.int (.ofNat 0)), (.int (.ofNat 1)), (.int (.ofNat 2)), (.int (.ofNat 3))])]), (.int (.ofNat 5)), (.lst [(.lst [(.int (.ofNat 0)), (.int (.ofNat 1)), (.int (.ofNat 2)), (.int (.ofNat 3)), (.int (.ofNat 4))]), (.lst [(.int (.ofNat 1)), (.int (.ofNat 2)), (.int (.ofNat 3)), (.int (.ofNat 4)), (.int (.ofNat 0))]), (.lst [(.int (.ofNat 2)), (.int (.ofNat 3)), (.int (.ofNat 4)), (.int (.ofNat 0)), (.int (.ofNat 1))]), (.lst [(.int (.ofNat 3)), (.int (.ofNat 4)), (.int (.ofNat 0)), (.int (.ofNat 1)), (.int (.ofNat 2))]), (.lst [(.int (.ofNat 4)), (.int (.ofNat 0)), (.int (.ofNat 1)), (.int (.ofNat 2)), (.int (.ofNat 3))])]), (.lst [(.int (.ofNat 0)), (.int (.ofNat 4)), (.int (.ofNat 3)), (.int (.ofNat 2)), (.int (.ofNat 1))])])
def T_c5 : D := (.ins 236 [Str.ofString "_moves", Str.ofString "_members", Str.ofString "_products", Str.ofString "_inverses"] [(.tup [(.tup [(.int (.ofNat 0)), (.int (.ofNat 1)), (.int (.ofNat 2)), (.int (.ofNat 3)), (.int (.ofNat 4))]), (.tup [(.int (.ofNat 1)), (.int (.ofNat 2)), (.int (.ofNat 3)), (.int (.ofNat 4)), (.int (.ofNat 0))]), (.tup [(.int (.ofNat 2)), (.int (.ofNat 3)), (.int (.ofNat 4)), (.int (.ofNat 0)), (.int (.ofNat 1))]), (.tup [(.int (.ofNat 3)), (.int (.ofNat 4)), (.int (.ofNat 0)), (.int (.ofNat 1)), (.int (.ofNat 2))]), (.tup [(.int (.ofNat 4)), (.int (.ofNat 0)), (.int (.ofNat 1)), (.int (.ofNat 2)), (.int (.ofNat 3))])]), (.tup [(.int (.ofNat 0)), (.int (.ofNat 1)), (.int (.ofNat 2)), (.int (.ofNat 3)), (.int (.ofNat 4))]), (.tup [(.ftup [(.int (.ofNat 0)), (.int (.ofNat 1)), (.int (.ofNat 2)), (.int (.ofNat 3)), (.int (.ofNat 4))]), (.ftup [(.int (.ofNat 1)), (.int (.ofNat 2)), (.int (.ofNat 3)), (.int (.ofNat 4)), (.int (.ofNat 0))]), (.ftup [(.int (.ofNat 2)), (.int (.ofNat 3)), (.int (.ofNat 4)), (.int (.ofNat 0)), (.int (.ofNat 1))]), (.ftup [(.int (.ofNat 3)), (.int (.ofNat 4)), (.int (.ofNat 0)), (.int (.ofNat 1)), (.int (.ofNat 2))]), (.ftup [(.int (.ofNat 4)), (.int (.ofNat 0)), (.int (.ofNat 1)), (.int (.ofNat 2)), (.int (.ofNat 3))])]), (.tup [(.int (.ofNat 0)), (.int (.ofNat 4)), (.int (.ofNat 3)), (.int (.ofNat 2)), (.int (.ofNat 1))])])
def b_c5 : D := (.lst [(.lst [(.int (.ofNat 0)), (.int (.ofNat 1)), (.int (.ofNat 2)), (.int (.ofNat 3)), (.int (.ofNat 4))]), (.lst [(.int (.ofNat 1)), (.int (.ofNat 2)), (.int (.ofNat 3)), (.int (.ofNat 4)), (.int (.ofNat 0))]), (.lst [(.int (.ofNat 2)), (.int (.ofNat 3)), (.int (.ofNat 4)), (.int (.ofNat 0)), (.int (.ofNat 1))]), (.lst [(.int (.ofNat 3)), (.int (.ofNat 4)), (.int (.ofNat 0)), (.int (.ofNat 1)), (.int (.ofNat 2))]), (.lst [(.int (.ofNat 4)), (.int (.ofNat 0)), (.int (.ofNat 1)), (.int (.ofNat 2)), (.int (.ofNat 3))])])
def P_c5 : List D := [(.tup [(.int (.ofNat 0))]), (.tup [(.int (.ofNat 0)), (.int (.ofNat 1)), (.int (.ofNat 2)), (.int (.ofNat 3)), (.int (.ofNat 4))])]
theorem mv_ok_c5 : fGet ready (.str (Str.ofString "c5")) = some (some mv_c5) := by
  have h : odb ((fGet ready (.str (Str.ofString "c5"))).bind id) (fun q => eqb q mv_c5) = true := by decide +kernel
  obtain ⟨q, e, h⟩ := odb_ok h
  obtain ⟨o, e1, e2⟩ := Option.bind_eq_some_iff.mp e
  cases e2
  rw [e1, eqb_ok h]
theorem g_c5 : r_law_group [mv_c5] = some G_c5 := oeq_ok (by decide +kernel)
theorem r_c5 : mr2 (.unk :: st0 G_c5) = some (.nx (.unk :: st1 G_c5 T_c5 b_c5 (.int (.ofNat 5)))) := nxeq_ok (by decide +kernel)
theorem z_c5 : fGetI G_c5 (.str "size") = some (.int (.ofNat 5)) := oeq_ok (by decide +kernel)
theorem d1_c5 : r_law_parts_of_size [G_c5, .int (.ofNat 1)] = some (.lst [(.tup [(.int (.ofNat 0))])]) := oeq_ok (by decide +kernel)
theorem d5_c5 : r_law_parts_of_size [G_c5, .int (.ofNat 5)] = some (.lst [(.tup [(.int (.ofNat 0)), (.int (.ofNat 1)), (.int (.ofNat 2)), (.int (.ofNat 3)), (.int (.ofNat 4))])]) := oeq_ok (by decide +kernel)
theorem p2_c5 : r_law_prime_right [G_c5, T_c5, .int 2] = some (.bl true) := chkPr_ok d1_c5 (by decide +kernel)
theorem p3_c5 : r_law_prime_right [G_c5, T_c5, .int 3] = some (.bl true) := chkPr_ok d1_c5 (by decide +kernel)
theorem p5_c5 : r_law_prime_right [G_c5, T_c5, .int 5] = some (.bl true) := chkPr_ok d5_c5 (by decide +kernel)
theorem p7_c5 : r_law_prime_right [G_c5, T_c5, .int 7] = some (.bl true) := chkPr_ok d1_c5 (by decide +kernel)
theorem p11_c5 : r_law_prime_right [G_c5, T_c5, .int 11] = some (.bl true) := chkPr_ok d1_c5 (by decide +kernel)
theorem p13_c5 : r_law_prime_right [G_c5, T_c5, .int 13] = some (.bl true) := chkPr_ok d1_c5 (by decide +kernel)
theorem p17_c5 : r_law_prime_right [G_c5, T_c5, .int 17] = some (.bl true) := chkPr_ok d1_c5 (by decide +kernel)
theorem p19_c5 : r_law_prime_right [G_c5, T_c5, .int 19] = some (.bl true) := chkPr_ok d1_c5 (by decide +kernel)
theorem p23_c5 : r_law_prime_right [G_c5, T_c5, .int 23] = some (.bl true) := chkPr_ok d1_c5 (by decide +kernel)
theorem p29_c5 : r_law_prime_right [G_c5, T_c5, .int 29] = some (.bl true) := chkPr_ok d1_c5 (by decide +kernel)
theorem p31_c5 : r_law_prime_right [G_c5, T_c5, .int 31] = some (.bl true) := chkPr_ok d1_c5 (by decide +kernel)
theorem m_c5 : (menu 5).all (chkMs G_c5 P_c5) = true := by decide +kernel
theorem bd_c5 : P_c5.all (chkBd (st1 G_c5 T_c5 b_c5 (.int (.ofNat 5)))) = true := by decide +kernel
theorem en_c5 : chkEn (st1 G_c5 T_c5 b_c5 (.int (.ofNat 5))) = true := by decide +kernel
theorem good_c5 : Good G_c5 T_c5 b_c5 (.ofNat 5) where
  r2 := r_c5
  n0 := by decide
  n1 := by decide
  sz := z_c5
  pr := fun p hp => by
    unfold primes at hp
    simp only [List.mem_cons, List.not_mem_nil, or_false] at hp
    rcases hp with rfl | rfl | rfl | rfl | rfl | rfl | rfl | rfl | rfl | rfl | rfl
    · exact p2_c5
    · exact p3_c5
    · exact p5_c5
    · exact p7_c5
    · exact p11_c5
    · exact p13_c5
    · exact p17_c5
    · exact p19_c5
    · exact p23_c5
    · exact p29_c5
    · exact p31_c5
  pt := pt_ok (k := 5) m_c5 bd_c5
  en := chkEn_ok en_c5
end K2

namespace K2
open PySem PySem.Spec L2 DL DN
def mv_c6 : D := (.tup [(.tup [(.int (.ofNat 1)), (.int (.ofNat 2)), (.int (.ofNat 3)), (.int (.ofNat 4)), (.int (.ofNat 5)), (.int (.ofNat 0))])])
def G_c6 : D := (.dct false [(.str (Str.ofString "moves")), (.str (Str.ofString "every")), (.str (Str.ofString "size")), (.str (Str.ofString "table")), (.str (Str.ofString "back"))] [(.tup [(.tup [(.int (.ofNat 1)), (.int (.ofNat 2)), (.int (.ofNat 3)), (.int (.ofNat 4)), (.int (.ofNat 5)), (.int (.ofNat 0))])]), (.lst [(.tup [(.int (.ofNat 0)), (.int (.ofNat 1)), (.int (.ofNat 2)), (.int (.ofNat 3)), (.int (.ofNat 4)), (.int (.ofNat 5))]), (.tup [(.int (.ofNat 1)), (.int (.ofNat 2)), (.int (.ofNat 3)), (.int (.ofNat 4)), (.int (.ofNat 5)), (.int (.ofNat 0))]), (.tup [(.int (.ofNat 2)), (.int (.ofNat 3)), (.int (.ofNat 4)), (.int (.ofNat 5)), (.int (.ofNat 0)), (.int (.ofNat 1))]), (.tup [(.int (.ofNat 3)), (.int (.ofNat 4)), (.int (.ofNat 5)), (.int (.ofNat 0)), (.int (.ofNat 1)), (.int (.ofNat 2))]), (.tup [(.int (.ofNat 4)), (.int (.ofNat 5)), (.int (.ofNat 0)), (.int (.ofNat 1)), (.int (.ofNat 2)), (.int (.ofNat 3))]), (.tup [(.int (.ofNat 5)), (.int (.ofNat 0)), (.int (.ofNat 1)), (.int (.ofNat 2)), (.int (.ofNat 3)), (.int (.ofNat 4))])]), (.int (.ofNat 6)), (.lst [(.lst [(.int (.ofNat 0)), (.int (.ofNat 1)), (.int (.ofNat 2)), (.int (.ofNat 3)), (.int (.ofNat 4)), (.int (.ofNat 5))]), (.lst [(.int (.ofNat 1)), (.int (.ofNat 2)), (.int (.ofNat 3)), (.int (.ofNat 4)), (.int (.ofNat 5)), (.int (.ofNat 0))]), (.lst [(.int (.ofNat 2)), (.int (.ofNat 3)), (.int (.ofNat 4)), (.int (.ofNat 5)), (.int (.ofNat 0)), (.int (.ofNat 1))]), (.lst [(.int (.ofNat 3)), (.int (.ofNat 4)), (.int (.ofNat 5)), (.int (.ofNat 0)), (.int (.ofNat 1)), (.int (.ofNat 2))]), (.lst [(.int (.ofNat 4)), (.int (.ofNat 5)), (.int (.ofNat 0)), (.int (.ofNat 1)), (.int (.ofNat 2)), (.int (.ofNat 3))]), (.lst [(.int (.ofNat 5)), (.int (.ofNat 0)), (.int (.ofNat 1)), (.int (.ofNat 2)), (.int (.ofNat 3)), (.int (.ofNat 4))])]), (.lst [(.int (.ofNat 0)), (.int (.ofNat 5)), (.int (.ofNat 4)), (.int (.ofNat 3)), (.int (.ofNat 2)), (.int (.ofNat 1))])])
def T_c6 : D := (.ins 236 [Str.ofString "_moves", Str.ofString "_members", Str.ofString "_products", Str.ofString "_inverses"] [(.tup [(.tup [(.int (.ofNat 0)), (.int (.ofNat 1)), (.int (.ofNat 2)), (.int (.ofNat 3)), (.int (.ofNat 4)), (.int (.ofNat 5))]), (.tup [(.int (.ofNat 1)), (.int (.ofNat 2)), (.int (.ofNat 3)), (.int (.ofNat 4)), (.int (.ofNat 5)), (.int (.ofNat 0))]), (.tup [(.int (.ofNat 2)), (.int (.ofNat 3)), (.int (.ofNat 4)), (.int (.ofNat 5)), (.int (.ofNat 0)), (.int (.ofNat 1))]), (.tup [(.int (.ofNat 3)), (.int (.ofNat 4)), (.int (.ofNat 5)), (.int (.ofNat 0)), (.int (.ofNat 1)), (.int (.ofNat 2))]), (.tup [(.int (.ofNat 4)), (.int (.ofNat 5)), (.int (.ofNat 0)), (.int (.ofNat 1)), (.int (.ofNat 2)), (.int (.ofNat 3))]), (.tup [(.int (.ofNat 5)), (.int (.ofNat 0)), (.int (.ofNat 1)), (.int (.ofNat 2)), (.int (.ofNat 3)), (.int (.ofNat 4))])]), (.tup [(.int (.ofNat 0)), (.int (.ofNat 1)), (.int (.ofNat 2)), (.int (.ofNat 3)), (.int (.ofNat 4)), (.int (.ofNat 5))]), (.tup [(.ftup [(.int (.ofNat 0)), (.int (.ofNat 1)), (.int (.ofNat 2)), (.int (.ofNat 3)), (.int (.ofNat 4)), (.int (.ofNat 5))]), (.ftup [(.int (.ofNat 1)), (.int (.ofNat 2)), (.int (.ofNat 3)), (.int (.ofNat 4)), (.int (.ofNat 5)), (.int (.ofNat 0))]), (.ftup [(.int (.ofNat 2)), (.int (.ofNat 3)), (.int (.ofNat 4)), (.int (.ofNat 5)), (.int (.ofNat 0)), (.int (.ofNat 1))]), (.ftup [(.int (.ofNat 3)), (.int (.ofNat 4)), (.int (.ofNat 5)), (.int (.ofNat 0)), (.int (.ofNat 1)), (.int (.ofNat 2))]), (.ftup [(.int (.ofNat 4)), (.int (.ofNat 5)), (.int (.ofNat 0)), (.int (.ofNat 1)), (.int (.ofNat 2)), (.int (.ofNat 3))]), (.ftup [(.int (.ofNat 5)), (.int (.ofNat 0)), (.int (.ofNat 1)), (.int (.ofNat 2)), (.int (.ofNat 3)), (.int (.ofNat 4))])]), (.tup [(.int (.ofNat 0)), (.int (.ofNat 5)), (.int (.ofNat 4)), (.int (.ofNat 3)), (.int (.ofNat 2)), (.int (.ofNat 1))])])
def b_c6 : D := (.lst [(.lst [(.int (.ofNat 0)), (.int (.ofNat 1)), (.int (.ofNat 2)), (.int (.ofNat 3)), (.int (.ofNat 4)), (.int (.ofNat 5))]), (.lst [(.int (.ofNat 1)), (.int (.ofNat 2)), (.int (.ofNat 3)), (.int (.ofNat 4)), (.int (.ofNat 5)), (.int (.ofNat 0))]), (.lst [(.int (.ofNat 2)), (.int (.ofNat 3)), (.int (.ofNat 4)), (.int (.ofNat 5)), (.int (.ofNat 0)), (.int (.ofNat 1))]), (.lst [(.int (.ofNat 3)), (.int (.ofNat 4)), (.int (.ofNat 5)), (.int (.ofNat 0)), (.int (.ofNat 1)), (.int (.ofNat 2))]), (.lst [(.int (.ofNat 4)), (.int (.ofNat 5)), (.int (.ofNat 0)), (.int (.ofNat 1)), (.int (.ofNat 2)), (.int (.ofNat 3))]), (.lst [(.int (.ofNat 5)), (.int (.ofNat 0)), (.int (.ofNat 1)), (.int (.ofNat 2)), (.int (.ofNat 3)), (.int (.ofNat 4))])])
def P_c6 : List D := [(.tup [(.int (.ofNat 0))]), (.tup [(.int (.ofNat 0)), (.int (.ofNat 1)), (.int (.ofNat 2)), (.int (.ofNat 3)), (.int (.ofNat 4)), (.int (.ofNat 5))]), (.tup [(.int (.ofNat 0)), (.int (.ofNat 2)), (.int (.ofNat 4))]), (.tup [(.int (.ofNat 0)), (.int (.ofNat 3))])]
theorem mv_ok_c6 : fGet ready (.str (Str.ofString "c6")) = some (some mv_c6) := by
  have h : odb ((fGet ready (.str (Str.ofString "c6"))).bind id) (fun q => eqb q mv_c6) = true := by decide +kernel
  obtain ⟨q, e, h⟩ := odb_ok h
  obtain ⟨o, e1, e2⟩ := Option.bind_eq_some_iff.mp e
  cases e2
  rw [e1, eqb_ok h]
theorem g_c6 : r_law_group [mv_c6] = some G_c6 := oeq_ok (by decide +kernel)
theorem r_c6 : mr2 (.unk :: st0 G_c6) = some (.nx (.unk :: st1 G_c6 T_c6 b_c6 (.int (.ofNat 6)))) := nxeq_ok (by decide +kernel)
theorem z_c6 : fGetI G_c6 (.str "size") = some (.int (.ofNat 6)) := oeq_ok (by decide +kernel)
theorem d1_c6 : r_law_parts_of_size [G_c6, .int (.ofNat 1)] = some (.lst [(.tup [(.int (.ofNat 0))])]) := oeq_ok (by decide +kernel)
theorem d2_c6 : r_law_parts_of_size [G_c6, .int (.ofNat 2)] = some (.lst [(.tup [(.int (.ofNat 0)), (.int (.ofNat 3))])]) := oeq_ok (by decide +kernel)
theorem d3_c6 : r_law_parts_of_size [G_c6, .int (.ofNat 3)] = some (.lst [(.tup [(.int (.ofNat 0)), (.int (.ofNat 2)), (.int (.ofNat 4))])]) := oeq_ok (by decide +kernel)
theorem p2_c6 : r_law_prime_right [G_c6, T_c6, .int 2] = some (.bl true) := chkPr_ok d2_c6 (by decide +kernel)
theorem p3_c6 : r_law_prime_right [G_c6, T_c6, .int 3] = some (.bl true) := chkPr_ok d3_c6 (by decide +kernel)
theorem p5_c6 : r_law_prime_right [G_c6, T_c6, .int 5] = some (.bl true) := chkPr_ok d1_c6 (by decide +kernel)
theorem p7_c6 : r_law_prime_right [G_c6, T_c6, .int 7] = some (.bl true) := chkPr_ok d1_c6 (by decide +kernel)
theorem p11_c6 : r_law_prime_right [G_c6, T_c6, .int 11] = some (.bl true) := chkPr_ok d1_c6 (by decide +kernel)
theorem p13_c6 : r_law_prime_right [G_c6, T_c6, .int 13] = some (.bl true) := chkPr_ok d1_c6 (by decide +kernel)
theorem p17_c6 : r_law_prime_right [G_c6, T_c6, .int 17] = some (.bl true) := chkPr_ok d1_c6 (by decide +kernel)
theorem p19_c6 : r_law_prime_right [G_c6, T_c6, .int 19] = some (.bl true) := chkPr_ok d1_c6 (by decide +kernel)
theorem p23_c6 : r_law_prime_right [G_c6, T_c6, .int 23] = some (.bl true) := chkPr_ok d1_c6 (by decide +kernel)
theorem p29_c6 : r_law_prime_right [G_c6, T_c6, .int 29] = some (.bl true) := chkPr_ok d1_c6 (by decide +kernel)
theorem p31_c6 : r_law_prime_right [G_c6, T_c6, .int 31] = some (.bl true) := chkPr_ok d1_c6 (by decide +kernel)
theorem m_c6 : (menu 6).all (chkMs G_c6 P_c6) = true := by decide +kernel
theorem bd_c6 : P_c6.all (chkBd (st1 G_c6 T_c6 b_c6 (.int (.ofNat 6)))) = true := by decide +kernel
theorem en_c6 : chkEn (st1 G_c6 T_c6 b_c6 (.int (.ofNat 6))) = true := by decide +kernel
theorem good_c6 : Good G_c6 T_c6 b_c6 (.ofNat 6) where
  r2 := r_c6
  n0 := by decide
  n1 := by decide
  sz := z_c6
  pr := fun p hp => by
    unfold primes at hp
    simp only [List.mem_cons, List.not_mem_nil, or_false] at hp
    rcases hp with rfl | rfl | rfl | rfl | rfl | rfl | rfl | rfl | rfl | rfl | rfl
    · exact p2_c6
    · exact p3_c6
    · exact p5_c6
    · exact p7_c6
    · exact p11_c6
    · exact p13_c6
    · exact p17_c6
    · exact p19_c6
    · exact p23_c6
    · exact p29_c6
    · exact p31_c6
  pt := pt_ok (k := 6) m_c6 bd_c6
  en := chkEn_ok en_c6
end K2

namespace K2
open PySem PySem.Spec L2 DL DN
def mv_c7 : D := (.tup [(.tup [(.int (.ofNat 1)), (.int (.ofNat 2)), (.int (.ofNat 3)), (.int (.ofNat 4)), (.int (.ofNat 5)), (.int (.ofNat 6)), (.int (.ofNat 0))])])
def G_c7 : D := (.dct false [(.str (Str.ofString "moves")), (.str (Str.ofString "every")), (.str (Str.ofString "size")), (.str (Str.ofString "table")), (.str (Str.ofString "back"))] [(.tup [(.tup [(.int (.ofNat 1)), (.int (.ofNat 2)), (.int (.ofNat 3)), (.int (.ofNat 4)), (.int (.ofNat 5)), (.int (.ofNat 6)), (.int (.ofNat 0))])]), (.lst [(.tup [(.int (.ofNat 0)), (.int (.ofNat 1)), (.int (.ofNat 2)), (.int (.ofNat 3)), (.int (.ofNat 4)), (.int (.ofNat 5)), (.int (.ofNat 6))]), (.tup [(.int (.ofNat 1)), (.int (.ofNat 2)), (.int (.ofNat 3)), (.int (.ofNat 4)), (.int (.ofNat 5)), (.int (.ofNat 6)), (.int (.ofNat 0))]), (.tup [(.int (.ofNat 2)), (.int (.ofNat 3)), (.int (.ofNat 4)), (.int (.ofNat 5)), (.int (.ofNat 6)), (.int (.ofNat 0)), (.int (.ofNat 1))]), (.tup [(.int (.ofNat 3)), (.int (.ofNat 4)), (.int (.ofNat 5)), (.int (.ofNat 6)), (.int (.ofNat 0)), (.int (.ofNat 1)), (.int (.ofNat 2))]), (.tup [(.int (.ofNat 4)), (.int (.ofNat 5)), (.int (.ofNat 6)), (.int (.ofNat 0)), (.int (.ofNat 1)), (.int (.ofNat 2)), (.int (.ofNat 3))]), (.tup [(.int (.ofNat 5)), (.int (.ofNat 6)), (.int (.ofNat 0)), (.int (.ofNat 1)), (.int (.ofNat 2)), (.int (.ofNat 3)), (.int (.ofNat 4))]), (.tup [(.int (.ofNat 6)), (.int (.ofNat 0)), (.int (.ofNat 1)), (.int (.ofNat 2)), (.int (.ofNat 3)), (.int (.ofNat 4)), (.int (.ofNat 5))])]), (.int (.ofNat 7)), (.lst [(.lst [(.int (.ofNat 0)), (.int (.ofNat 1)), (.int (.ofNat 2)), (.int (.ofNat 3)), (.int (.ofNat 4)), (.int (.ofNat 5)), (.int (.ofNat 6))]), (.lst [(.int (.ofNat 1)), (.int (.ofNat 2)), (.int (.ofNat 3)), (.int (.ofNat 4)), (.int (.ofNat 5)), (.int (.ofNat 6)), (.int (.ofNat 0))]), (.lst [(.int (.ofNat 2)), (.int (.ofNat 3)), (.int (.ofNat 4)), (.int (.ofNat 5)), (.int (.ofNat 6)), (.int (.ofNat 0)), (.int (.ofNat 1))]), (.lst [(.int (.ofNat 3)), (.int (.ofNat 4)), (.int (.ofNat 5)), (.int (.ofNat 6)), (.int (.ofNat 0)), (.int (.ofNat 1)), (.int (.ofNat 2))]), (.lst [(.int (.ofNat 4)), (.int (.ofNat 5)), (.int (.ofNat 6)), (.int (.ofNat 0)), (.int (.ofNat 1)), (.int (.ofNat 2)), (.int (.ofNat 3))]), (.lst [(.int (.ofNat 5)), (.int (.ofNat 6)), (.int (.ofNat 0)), (.int (.ofNat 1)), (.int (.ofNat 2)), (.int (.ofNat 3)), (.int (.ofNat 4))]), (.lst [(.int (.ofNat 6)), (.int (.ofNat 0)), (.int (.ofNat 1)), (.int (.ofNat 2)), (.int (.ofNat 3)), (.int (.ofNat 4)), (.int (.ofNat 5))])]), (.lst [(.int (.ofNat 0)), (.int (.ofNat 6)), (.int (.ofNat 5)), (.int (.ofNat 4)), (.int (.ofNat 3)), (.int (.ofNat 2)), (.int (.ofNat 1))])])
def T_c7 : D := (.ins 236 [Str.ofString "_moves", Str.ofString "_members", Str.ofString "_products", Str.ofString "_inverses"] [(.tup [(.tup [(.int (.ofNat 0)), (.int (.ofNat 1)), (.int (.ofNat 2)), (.int (.ofNat 3)), (.int (.ofNat 4)), (.int (.ofNat 5)), (.int (.ofNat 6))]), (.tup [(.int (.ofNat 1)), (.int (.ofNat 2)), (.int (.ofNat 3)), (.int (.ofNat 4)), (.int (.ofNat 5)), (.int (.ofNat 6)), (.int (.ofNat 0))]), (.tup [(.int (.ofNat 2)), (.int (.ofNat 3)), (.int (.ofNat 4)), (.int (.ofNat 5)), (.int (.ofNat 6)), (.int (.ofNat 0)), (.int (.ofNat 1))]), (.tup [(.int (.ofNat 3)), (.int (.ofNat 4)), (.int (.ofNat 5)), (.int (.ofNat 6)), (.int (.ofNat 0)), (.int (.ofNat 1)), (.int (.ofNat 2))]), (.tup [(.int (.ofNat 4)), (.int (.ofNat 5)), (.int (.ofNat 6)), (.int (.ofNat 0)), (.int (.ofNat 1)), (.int (.ofNat 2)), (.int (.ofNat 3))]), (.tup [(.int (.ofNat 5)), (.int (.ofNat 6)), (.int (.ofNat 0)), (.int (.ofNat 1)), (.int (.ofNat 2)), (.int (.ofNat 3)), (.int (.ofNat 4))]), (.tup [(.int (.ofNat 6)), (.int (.ofNat 0)), (.int (.ofNat 1)), (.int (.ofNat 2)), (.int (.ofNat 3)), (.int (.ofNat 4)), (.int (.ofNat 5))])]), (.tup [(.int (.ofNat 0)), (.int (.ofNat 1)), (.int (.ofNat 2)), (.int (.ofNat 3)), (.int (.ofNat 4)), (.int (.ofNat 5)), (.int (.ofNat 6))]), (.tup [(.ftup [(.int (.ofNat 0)), (.int (.ofNat 1)), (.int (.ofNat 2)), (.int (.ofNat 3)), (.int (.ofNat 4)), (.int (.ofNat 5)), (.int (.ofNat 6))]), (.ftup [(.int (.ofNat 1)), (.int (.ofNat 2)), (.int (.ofNat 3)), (.int (.ofNat 4)), (.int (.ofNat 5)), (.int (.ofNat 6)), (.int (.ofNat 0))]), (.ftup [(.int (.ofNat 2)), (.int (.ofNat 3)), (.int (.ofNat 4)), (.int (.ofNat 5)), (.int (.ofNat 6)), (.int (.ofNat 0)), (.int (.ofNat 1))]), (.ftup [(.int (.ofNat 3)), (.int (.ofNat 4)), (.int (.ofNat 5)), (.int (.ofNat 6)), (.int (.ofNat 0)), (.int (.ofNat 1)), (.int (.ofNat 2))]), (.ftup [(.int (.ofNat 4)), (.int (.ofNat 5)), (.int (.ofNat 6)), (.int (.ofNat 0)), (.int (.ofNat 1)), (.int (.ofNat 2)), (.int (.ofNat 3))]), (.ftup [(.int (.ofNat 5)), (.int (.ofNat 6)), (.int (.ofNat 0)), (.int (.ofNat 1)), (.int (.ofNat 2)), (.int (.ofNat 3)), (.int (.ofNat 4))]), (.ftup [(.int (.ofNat 6)), (.int (.ofNat 0)), (.int (.ofNat 1)), (.int (.ofNat 2)), (.int (.ofNat 3)), (.int (.ofNat 4)), (.int (.ofNat 5))])]), (.tup [(.int (.ofNat 0)), (.int (.ofNat 6)), (.int (.ofNat 5)), (.int (.ofNat 4)), (.int (.ofNat 3)), (.int (.ofNat 2)), (.int (.ofNat 1))])])
def b_c7 : D := (.lst [(.lst [(.int (.ofNat 0)), (.int (.ofNat 1)), (.int (.ofNat 2)), (.int (.ofNat 3)), (.int (.ofNat 4)), (.int (.ofNat 5)), (.int (.ofNat 6))]), (.lst [(.int (.ofNat 1)), (.int (.ofNat 2)), (.int (.ofNat 3)), (.int (.ofNat 4)), (.int (.ofNat 5)), (.int (.ofNat 6)), (.int (.ofNat 0))]), (.lst [(.int (.ofNat 2)), (.int (.ofNat 3)), (.int (.ofNat 4)), (.int (.ofNat 5)), (.int (.ofNat 6)), (.int (.ofNat 0)), (.int (.ofNat 1))]), (.lst [(.int (.ofNat 3)), (.int (.ofNat 4)), (.int (.ofNat 5)), (.int (.ofNat 6)), (.int (.ofNat 0)), (.int (.ofNat 1)), (.int (.ofNat 2))]), (.lst [(.int (.ofNat 4)), (.int (.ofNat 5)), (.int (.ofNat 6)), (.int (.ofNat 0)), (.int (.ofNat 1)), (.int (.ofNat 2)), (.int (.ofNat 3))]), (.lst [(.int (.ofNat 5)), (.int (.ofNat 6)), (.int (.ofNat 0)), (.int (.ofNat 1)), (.int (.ofNat 2)), (.int (.ofNat 3)), (.int (.ofNat 4))]), (.lst [(.int (.ofNat 6)), (.int (.ofNat 0)), (.int (.ofNat 1)), (.int (.ofNat 2)), (.int (.ofNat 3)), (.int (.ofNat 4)), (.int (.ofNat 5))])])
def P_c7 : List D := [(.tup [(.int (.ofNat 0))]), (.tup [(.int (.ofNat 0)), (.int (.ofNat 1)), (.int (.ofNat 2)), (.int (.ofNat 3)), (.int (.ofNat 4)), (.int (.ofNat 5)), (.int (.ofNat 6))])]
theorem mv_ok_c7 : fGet ready (.str (Str.ofString "c7")) = some (some mv_c7) := by
  have h : odb ((fGet ready (.str (Str.ofString "c7"))).bind id) (fun q => eqb q mv_c7) = true := by decide +kernel
  obtain ⟨q, e, h⟩ := odb_ok h
  obtain ⟨o, e1, e2⟩ := Option.bind_eq_some_iff.mp e
  cases e2
  rw [e1, eqb_ok h]
theorem g_c7 : r_law_group [mv_c7] = some G_c7 := oeq_ok (by decide +kernel)
theorem r_c7 : mr2 (.unk :: st0 G_c7) = some (.nx (.unk :: st1 G_c7 T_c7 b_c7 (.int (.ofNat 7)))) := nxeq_ok (by decide +kernel)
theorem z_c7 : fGetI G_c7 (.str "size") = some (.int (.ofNat 7)) := oeq_ok (by decide +kernel)
theorem d1_c7 : r_law_parts_of_size [G_c7, .int (.ofNat 1)] = some (.lst [(.tup [(.int (.ofNat 0))])]) := oeq_ok (by decide +kernel)
theorem d7_c7 : r_law_parts_of_size [G_c7, .int (.ofNat 7)] = some (.lst [(.tup [(.int (.ofNat 0)), (.int (.ofNat 1)), (.int (.ofNat 2)), (.int (.ofNat 3)), (.int (.ofNat 4)), (.int (.ofNat 5)), (.int (.ofNat 6))])]) := oeq_ok (by decide +kernel)
theorem p2_c7 : r_law_prime_right [G_c7, T_c7, .int 2] = some (.bl true) := chkPr_ok d1_c7 (by decide +kernel)
theorem p3_c7 : r_law_prime_right [G_c7, T_c7, .int 3] = some (.bl true) := chkPr_ok d1_c7 (by decide +kernel)
theorem p5_c7 : r_law_prime_right [G_c7, T_c7, .int 5] = some (.bl true) := chkPr_ok d1_c7 (by decide +kernel)
theorem p7_c7 : r_law_prime_right [G_c7, T_c7, .int 7] = some (.bl true) := chkPr_ok d7_c7 (by decide +kernel)
theorem p11_c7 : r_law_prime_right [G_c7, T_c7, .int 11] = some (.bl true) := chkPr_ok d1_c7 (by decide +kernel)
theorem p13_c7 : r_law_prime_right [G_c7, T_c7, .int 13] = some (.bl true) := chkPr_ok d1_c7 (by decide +kernel)
theorem p17_c7 : r_law_prime_right [G_c7, T_c7, .int 17] = some (.bl true) := chkPr_ok d1_c7 (by decide +kernel)
theorem p19_c7 : r_law_prime_right [G_c7, T_c7, .int 19] = some (.bl true) := chkPr_ok d1_c7 (by decide +kernel)
theorem p23_c7 : r_law_prime_right [G_c7, T_c7, .int 23] = some (.bl true) := chkPr_ok d1_c7 (by decide +kernel)
theorem p29_c7 : r_law_prime_right [G_c7, T_c7, .int 29] = some (.bl true) := chkPr_ok d1_c7 (by decide +kernel)
theorem p31_c7 : r_law_prime_right [G_c7, T_c7, .int 31] = some (.bl true) := chkPr_ok d1_c7 (by decide +kernel)
theorem m_c7 : (menu 7).all (chkMs G_c7 P_c7) = true := by decide +kernel
theorem bd_c7 : P_c7.all (chkBd (st1 G_c7 T_c7 b_c7 (.int (.ofNat 7)))) = true := by decide +kernel
theorem en_c7 : chkEn (st1 G_c7 T_c7 b_c7 (.int (.ofNat 7))) = true := by decide +kernel
theorem good_c7 : Good G_c7 T_c7 b_c7 (.ofNat 7) where
  r2 := r_c7
  n0 := by decide
  n1 := by decide
  sz := z_c7
  pr := fun p hp => by
    unfold primes at hp
    simp only [List.mem_cons, List.not_mem_nil, or_false] at hp
    rcases hp with rfl | rfl | rfl | rfl | rfl | rfl | rfl | rfl | rfl | rfl | rfl
    · exact p2_c7
    · exact p3_c7
    · exact p5_c7
    · exact p7_c7
    · exact p11_c7
    · exact p13_c7
    · exact p17_c7
    · exact p19_c7
    · exact p23_c7
    · exact p29_c7
    · exact p31_c7
  pt := pt_ok (k := 7) m_c7 bd_c7
  en := chkEn_ok en_c7
end K2

namespace K2
open PySem PySem.Spec L2 DL DN
def mv_c8 : D := (.tup [(.tup [(.int (.ofNat 1)), (.int (.ofNat 2)), (.int (.ofNat 3)), (.int (.ofNat 4)), (.int (.ofNat 5)), (.int (.ofNat 6)), (.int (.ofNat 7)), (.int (.ofNat 0))])])
def G_c8 : D := (.dct false [(.str (Str.ofString "moves")), (.str (Str.ofString "every")), (.str (Str.ofString "size")), (.str (Str.ofString "table")), (.str (Str.ofString "back"))] [(.tup [(.tup [(.int (.ofNat 1)), (.int (.ofNat 2)), (.int (.ofNat 3)), (.int (.ofNat 4)), (.int (.ofNat 5)), (.int (.ofNat 6)), (.int (.ofNat 7)), (.int (.ofNat 0))])]), (.lst [(.tup [(.int (.ofNat 0)), (.int (.ofNat 1)), (.int (.ofNat 2)), (.int (.ofNat 3)), (.int (.ofNat 4)), (.int (.ofNat 5)), (.int (.ofNat 6)), (.int (.ofNat 7))]), (.tup [(.int (.ofNat 1)), (.int (.ofNat 2)), (.int (.ofNat 3)), (.int (.ofNat 4)), (.int (.ofNat 5)), (.int (.ofNat 6)), (.int (.ofNat 7)), (.int (.ofNat 0))]), (.tup [(.int (.ofNat 2)), (.int (.ofNat 3)), (.int (.ofNat 4)), (.int (.ofNat 5)), (.int (.ofNat 6)), (.int (.ofNat 7)), (.int (.ofNat 0)), (.int (.ofNat 1))]), (.tup [(.int (.ofNat 3)), (.int (.ofNat 4)), (.int (.ofNat 5)), (.int (.ofNat 6)), (.int (.ofNat 7)), (.int (.ofNat 0)), (.int (.ofNat 1)), (.int (.ofNat 2))]), (.tup [(.int (.ofNat 4)), (.int (.ofNat 5)), (.int (.ofNat 6)), (.int (.ofNat 7)), (.int (.ofNat 0)), (.int (.ofNat 1)), (.int (.ofNat 2)), (.int (.ofNat 3))]), (.tup [(.int (.ofNat 5)), (.int (.ofNat 6)), (.int (.ofNat 7)), (.int (.ofNat 0)), (.int (.ofNat 1)), (.int (.ofNat 2)), (.int (.ofNat 3)), (.int (.ofNat 4))]), (.tup [(.int (.ofNat 6)), (.int (.ofNat 7)), (.int (.ofNat 0)), (.int (.ofNat 1)), (.int (.ofNat 2)), (.int (.ofNat 3)), (.int (.ofNat 4)), (.int (.ofNat 5))]), (.tup [(.int (.ofNat 7)), (.int (.ofNat 0)), (.int (.ofNat 1)), (.int (.ofNat 2)), (.int (.ofNat 3)), (.int (.ofNat 4)), (.int (.ofNat 5)), (.int (.ofNat 6))])]), (.int (.ofNat 8)), (.lst [(.lst [(.int (.ofNat 0)), (.int (.ofNat 1)), (.int (.ofNat 2)), (.int (.ofNat 3)), (.int (.ofNat 4)), (.int (.ofNat 5)), (.int (.ofNat 6)), (.int (.ofNat 7))]), (.lst [(.int (.ofNat 1)), (.int (.ofNat 2)), (.int (.ofNat 3)), (.int (.ofNat 4)), (.int (.ofNat 5)), (.int (.ofNat 6)), (.int (.ofNat 7)), (.int (.ofNat 0))]), (.lst [(.int (.ofNat 2)), (.int (.ofNat 3)), (.int (.ofNat 4)), (.int (.ofNat 5)), (.int (.ofNat 6)), (.int (.ofNat 7)), (.int (.ofNat 0)), (.int (.ofNat 1))]), (.lst [(.int (.ofNat 3)), (.int (.ofNat 4)), (.int (.ofNat 5)), (.int (.ofNat 6)), (.int (.ofNat 7)), (.int (.ofNat 0)), (.int (.ofNat 1)), (.int (.ofNat 2))]), (.lst [(.int (.ofNat 4)), (.int (.ofNat 5)), (.int (.ofNat 6)), (.int (.ofNat 7)), (.int (.ofNat 0)), (.int (.ofNat 1)), (.int (.ofNat 2)), (.int (.ofNat 3))]), (.lst [(.int (.ofNat 5)), (.int (.ofNat 6)), (.int (.ofNat 7)), (.int (.ofNat 0)), (.int (.ofNat 1)), (.int (.ofNat 2)), (.int (.ofNat 3)), (.int (.ofNat 4))]), (.lst [(.int (.ofNat 6)), (.int (.ofNat 7)), (.int (.ofNat 0)), (.int (.ofNat 1)), (.int (.ofNat 2)), (.int (.ofNat 3)), (.int (.ofNat 4)), (.int (.ofNat 5))]), (.lst [(.int (.ofNat 7)), (.int (.ofNat 0)), (.int (.ofNat 1)), (.int (.ofNat 2)), (.int (.ofNat 3)), (.int (.ofNat 4)), (.int (.ofNat 5)), (.int (.ofNat 6))])]), (.lst [(.int (.ofNat 0)), (.int (.ofNat 7)), (.int (.ofNat 6)), (.int (.ofNat 5)), (.int (.ofNat 4)), (.int (.ofNat 3)), (.int (.ofNat 2)), (.int (.ofNat 1))])])
def T_c8 : D := (.ins 236 [Str.ofString "_moves", Str.ofString "_members", Str.ofString "_products", Str.ofString "_inverses"] [(.tup [(.tup [(.int (.ofNat 0)), (.int (.ofNat 1)), (.int (.ofNat 2)), (.int (.ofNat 3)), (.int (.ofNat 4)), (.int (.ofNat 5)), (.int (.ofNat 6)), (.int (.ofNat 7))]), (.tup [(.int (.ofNat 1)), (.int (.ofNat 2)), (.int (.ofNat 3)), (.int (.ofNat 4)), (.int (.ofNat 5)), (.int (.ofNat 6)), (.int (.ofNat 7)), (.int (.ofNat 0))]), (.tup [(.int (.ofNat 2)), (.int (.ofNat 3)), (.int (.ofNat 4)), (.int (.ofNat 5)), (.int (.ofNat 6)), (.int (.ofNat 7)), (.int (.ofNat 0)), (.int (.ofNat 1))]), (.tup [(.int (.ofNat 3)), (.int (.ofNat 4)), (.int (.ofNat 5)), (.int (.ofNat 6)), (.int (.ofNat 7)), (.int (.ofNat 0)), (.int (.ofNat 1)), (.int (.ofNat 2))]), (.tup [(.int (.ofNat 4)), (.int (.ofNat 5)), (.int (.ofNat 6)), (.int (.ofNat 7)), (.int (.ofNat 0)), (.int (.ofNat 1)), (.int (.ofNat 2)), (.int (.ofNat 3))]), (.tup [(.int (.ofNat 5)), (.int (.ofNat 6)), (.int (.ofNat 7)), (.int (.ofNat 0)), (.int (.ofNat 1)), (.int (.ofNat 2)), (.int (.ofNat 3)), (.int (.ofNat 4))]), (.tup [(.int (.ofNat 6)), (.int (.ofNat 7)), (.int (.ofNat 0)), (.int (.ofNat 1)), (.int (.ofNat 2)), (.int (.ofNat 3)), (.int (.ofNat 4)), (.int (.ofNat 5))]), (.tup [(.int (.ofNat 7)), (.int (.ofNat 0)), (.int (.ofNat 1)), (.int (.ofNat 2)), (.int (.ofNat 3)), (.int (.ofNat 4)), (.int (.ofNat 5)), (.int (.ofNat 6))])]), (.tup [(.int (.ofNat 0)), (.int (.ofNat 1)), (.int (.ofNat 2)), (.int (.ofNat 3)), (.int (.ofNat 4)), (.int (.ofNat 5)), (.int (.ofNat 6)), (.int (.ofNat 7))]), (.tup [(.ftup [(.int (.ofNat 0)), (.int (.ofNat 1)), (.int (.ofNat 2)), (.int (.ofNat 3)), (.int (.ofNat 4)), (.int (.ofNat 5)), (.int (.ofNat 6)), (.int (.ofNat 7))]), (.ftup [(.int (.ofNat 1)), (.int (.ofNat 2)), (.int (.ofNat 3)), (.int (.ofNat 4)), (.int (.ofNat 5)), (.int (.ofNat 6)), (.int (.ofNat 7)), (.int (.ofNat 0))]), (.ftup [(.int (.ofNat 2)), (.int (.ofNat 3)), (.int (.ofNat 4)), (.int (.ofNat 5)), (.int (.ofNat 6)), (.int (.ofNat 7)), (.int (.ofNat 0)), (.int (.ofNat 1))]), (.ftup [(.int (.ofNat 3)), (.int (.ofNat 4)), (.int (.ofNat 5)), (.int (.ofNat 6)), (.int (.ofNat 7)), (.int (.ofNat 0)), (.int (.ofNat 1)), (.int (.ofNat 2))]), (.ftup [(.int (.ofNat 4)), (.int (.ofNat 5)), (.int (.ofNat 6)), (.int (.ofNat 7)), (.int (.ofNat 0)), (.int (.ofNat 1)), (.int (.ofNat 2)), (.int (.ofNat 3))]), (.ftup [(.int (.ofNat 5)), (.int (.ofNat 6)), (.int (.ofNat 7)), (.int (.ofNat 0)), (.int (.ofNat 1)), (.int (.ofNat 2)), (.int (.ofNat 3)), (.int (.ofNat 4))]), (.ftup [(.int (.ofNat 6)), (.int (.ofNat 7)), (.int (.ofNat 0)), (.int (.ofNat 1)), (.int (.ofNat 2)), (.int (.ofNat 3)), (.int (.ofNat 4)), (.int (.ofNat 5))]), (.ftup [(.int (.ofNat 7)), (.int (.ofNat 0)), (.int (.ofNat 1)), (.int (.ofNat 2)), (.int (.ofNat 3)), (.int (.ofNat 4)), (.int (.ofNat 5)), (.int (.ofNat 6))])]), (.tup [(.int (.ofNat 0)), (.int (.ofNat 7)), (.int (.ofNat 6)), (.int (.ofNat 5)), (.int (.ofNat 4)), (.int (.ofNat 3)), (.int (.ofNat 2)), (.int (.ofNat 1))])])
def b_c8 : D := (.lst [(.lst [(.int (.ofNat 0)), (.int (.ofNat 1)), (.int (.ofNat 2)), (.int (.ofNat 3)), (.int (.ofNat 4)), (.int (.ofNat 5)), (.int (.ofNat 6)), (.int (.ofNat 7))]), (.lst [(.int (.ofNat 1)), (.int (.ofNat 2)), (.int (.ofNat 3)), (.int (.ofNat 4)), (.int (.ofNat 5)), (.int (.ofNat 6)), (.int (.ofNat 7)), (.int (.ofNat 0))]), (.lst [(.int (.ofNat 2)), (.int (.ofNat 3)), (.int (.ofNat 4)), (.int (.ofNat 5)), (.int (.ofNat 6)), (.int (.ofNat 7)), (.int (.ofNat 0)), (.int (.ofNat 1))]), (.lst [(.int (.ofNat 3)), (.int (.ofNat 4)), (.int (.ofNat 5)), (.int (.ofNat 6)), (.int (.ofNat 7)), (.int (.ofNat 0)), (.int (.ofNat 1)), (.int (.ofNat 2))]), (.lst [(.int (.ofNat 4)), (.int (.ofNat 5)), (.int (.ofNat 6)), (.int (.ofNat 7)), (.int (.ofNat 0)), (.int (.ofNat 1)), (.int (.ofNat 2)), (.int (.ofNat 3))]), (.lst [(.int (.ofNat 5)), (.int (.ofNat 6)), (.int (.ofNat 7)), (.int (.ofNat 0)), (.int (.ofNat 1)), (.int (.ofNat 2)), (.int (.ofNat 3)), (.int (.ofNat 4))]), (.lst [(.int (.ofNat 6)), (.int (.ofNat 7)), (.int (.ofNat 0)), (.int (.ofNat 1)), (.int (.ofNat 2)), (.int (.ofNat 3)), (.int (.ofNat 4)), (.int (.ofNat 5))]), (.lst [(.int (.ofNat 7)), (.int (.ofNat 0)), (.int (.ofNat 1)), (.int (.ofNat 2)), (.int (.ofNat 3)), (.int (.ofNat 4)), (.int (.ofNat 5)), (.int (.ofNat 6))])])
def P_c8 : List D := [(.tup [(.int (.ofNat 0))]), (.tup [(.int (.ofNat 0)), (.int (.ofNat 1)), (.int (.ofNat 2)), (.int (.ofNat 3)), (.int (.ofNat 4)), (.int (.ofNat 5)), (.int (.ofNat 6)), (.int (.ofNat 7))]), (.tup [(.int (.ofNat 0)), (.int (.ofNat 2)), (.int (.ofNat 4)), (.int (.ofNat 6))]), (.tup [(.int (.ofNat 0)), (.int (.ofNat 4))])]
theorem mv_ok_c8 : fGet ready (.str (Str.ofString "c8")) = some (some mv_c8) := by
  have h : odb ((fGet ready (.str (Str.ofString "c8"))).bind id) (fun q => eqb q mv_c8) = true := by decide +kernel
  obtain ⟨q, e, h⟩ := odb_ok h
  obtain ⟨o, e1, e2⟩ := Option.bind_eq_some_iff.mp e
  cases e2
  rw [e1, eqb_ok h]
theorem g_c8 : r_law_group [mv_c8] = some G_c8 := oeq_ok (by decide +kernel)
theorem r_c8 : mr2 (.unk :: st0 G_c8) = some (.nx (.unk :: st1 G_c8 T_c8 b_c8 (.int (.ofNat 8)))) := nxeq_ok (by decide +kernel)
theorem z_c8 : fGetI G_c8 (.str "size") = some (.int (.ofNat 8)) := oeq_ok (by decide +kernel)
theorem d1_c8 : r_law_parts_of_size [G_c8, .int (.ofNat 1)] = some (.lst [(.tup [(.int (.ofNat 0))])]) := oeq_ok (by decide +kernel)
theorem d8_c8 : r_law_parts_of_size [G_c8, .int (.ofNat 8)] = some (.lst [(.tup [(.int (.ofNat 0)), (.int (.ofNat 1)), (.int (.ofNat 2)), (.int (.ofNat 3)), (.int (.ofNat 4)), (.int (.ofNat 5)), (.int (.ofNat 6)), (.int (.ofNat 7))])]) := oeq_ok (by decide +kernel)
theorem p2_c8 : r_law_prime_right [G_c8, T_c8, .int 2] = some (.bl true) := chkPr_ok d8_c8 (by decide +kernel)
theorem p3_c8 : r_law_prime_right [G_c8, T_c8, .int 3] = some (.bl true) := chkPr_ok d1_c8 (by decide +kernel)
theorem p5_c8 : r_law_prime_right [G_c8, T_c8, .int 5] = some (.bl true) := chkPr_ok d1_c8 (by decide +kernel)
theorem p7_c8 : r_law_prime_right [G_c8, T_c8, .int 7] = some (.bl true) := chkPr_ok d1_c8 (by decide +kernel)
theorem p11_c8 : r_law_prime_right [G_c8, T_c8, .int 11] = some (.bl true) := chkPr_ok d1_c8 (by decide +kernel)
theorem p13_c8 : r_law_prime_right [G_c8, T_c8, .int 13] = some (.bl true) := chkPr_ok d1_c8 (by decide +kernel)
theorem p17_c8 : r_law_prime_right [G_c8, T_c8, .int 17] = some (.bl true) := chkPr_ok d1_c8 (by decide +kernel)
theorem p19_c8 : r_law_prime_right [G_c8, T_c8, .int 19] = some (.bl true) := chkPr_ok d1_c8 (by decide +kernel)
theorem p23_c8 : r_law_prime_right [G_c8, T_c8, .int 23] = some (.bl true) := chkPr_ok d1_c8 (by decide +kernel)
theorem p29_c8 : r_law_prime_right [G_c8, T_c8, .int 29] = some (.bl true) := chkPr_ok d1_c8 (by decide +kernel)
theorem p31_c8 : r_law_prime_right [G_c8, T_c8, .int 31] = some (.bl true) := chkPr_ok d1_c8 (by decide +kernel)
theorem m_c8 : (menu 8).all (chkMs G_c8 P_c8) = true := by decide +kernel
theorem bd_c8 : P_c8.all (chkBd (st1 G_c8 T_c8 b_c8 (.int (.ofNat 8)))) = true := by decide +kernel
theorem en_c8 : chkEn (st1 G_c8 T_c8 b_c8 (.int (.ofNat 8))) = true := by decide +kernel
theorem good_c8 : Good G_c8 T_c8 b_c8 (.ofNat 8) where
  r2 := r_c8
  n0 := by decide
  n1 := by decide
  sz := z_c8
  pr := fun p hp => by
    unfold primes at hp
    simp only [List.mem_cons, List.not_mem_nil, or_false] at hp
    rcases hp with rfl | rfl | rfl | rfl | rfl | rfl | rfl | rfl | rfl | rfl | rfl
    · exact p2_c8
    · exact p3_c8
    · exact p5_c8
    · exact p7_c8
    · exact p11_c8
    · exact p13_c8
    · exact p17_c8
    · exact p19_c8
    · exact p23_c8
    · exact p29_c8
    · exact p31_c8
  pt := pt_ok (k := 8) m_c8 bd_c8
  en := chkEn_ok en_c8
end K2

namespace K2
open PySem PySem.Spec L2 DL DN
def mv_d4 : D := (.tup [(.tup [(.int (.ofNat 1)), (.int (.ofNat 2)), (.int (.ofNat 3)), (.int (.ofNat 0))]), (.tup [(.int (.ofNat 0)), (.int (.ofNat 3)), (.int (.ofNat 2)), (.int (.ofNat 1))])])
def G_d4 : D := (.dct false [(.str (Str.ofString "moves")), (.str (Str.ofString "every")), (.str (Str.ofString "size")), (.str (Str.ofString "table")), (.str (Str.ofString "back"))] [(.tup [(.tup [(.int (.ofNat 1)), (.int (.ofNat 2)), (.int (.ofNat 3)), (.int (.ofNat 0))]), (.tup [(.int (.ofNat 0)), (.int (.ofNat 3)), (.int (.ofNat 2)), (.int (.ofNat 1))])]), (.lst [(.tup [(.int (.ofNat 0)), (.int (.ofNat 1)), (.int (.ofNat 2)), (.int (.ofNat 3))]), (.tup [(.int (.ofNat 0)), (.int (.ofNat 3)), (.int (.ofNat 2)), (.int (.ofNat 1))]), (.tup [(.int (.ofNat 1)), (.int (.ofNat 0)), (.int (.ofNat 3)), (.int (.ofNat 2))]), (.tup [(.int (.ofNat 1)), (.int (.ofNat 2)), (.int (.ofNat 3)), (.int (.ofNat 0))]), (.tup [(.int (.ofNat 2)), (.int (.ofNat 1)), (.int (.ofNat 0)), (.int (.ofNat 3))]), (.tup [(.int (.ofNat 2)), (.int (.ofNat 3)), (.int (.ofNat 0)), (.int (.ofNat 1))]), (.tup [(.int (.ofNat 3)), (.int (.ofNat 0)), (.int (.ofNat 1)), (.int (.ofNat 2))]), (.tup [(.int (.ofNat 3)), (.int (.ofNat 2)), (.int (.ofNat 1)), (.int (.ofNat 0))])]), (.int (.ofNat 8)), (.lst [(.lst [(.int (.ofNat 0)), (.int (.ofNat 1)), (.int (.ofNat 2)), (.int (.ofNat 3)), (.int (.ofNat 4)), (.int (.ofNat 5)), (.int (.ofNat 6)), (.int (.ofNat 7))]), (.lst [(.int (.ofNat 1)), (.int (.ofNat 0)), (.int (.ofNat 6)), (.int (.ofNat 7)), (.int (.ofNat 5)), (.int (.ofNat 4)), (.int (.ofNat 2)), (.int (.ofNat 3))]), (.lst [(.int (.ofNat 2)), (.int (.ofNat 3)), (.int (.ofNat 0)), (.int (.ofNat 1)), (.int (.ofNat 6)), (.int (.ofNat 7)), (.int (.ofNat 4)), (.int (.ofNat 5))]), (.lst [(.int (.ofNat 3)), (.int (.ofNat 2)), (.int (.ofNat 4)), (.int (.ofNat 5)), (.int (.ofNat 7)), (.int (.ofNat 6)), (.int (.ofNat 0)), (.int (.ofNat 1))]), (.lst [(.int (.ofNat 4)), (.int (.ofNat 5)), (.int (.ofNat 3)), (.int (.ofNat 2)), (.int (.ofNat 0)), (.int (.ofNat 1)), (.int (.ofNat 7)), (.int (.ofNat 6))]), (.lst [(.int (.ofNat 5)), (.int (.ofNat 4)), (.int (.ofNat 7)), (.int (.ofNat 6)), (.int (.ofNat 1)), (.int (.ofNat 0)), (.int (.ofNat 3)), (.int (.ofNat 2))]), (.lst [(.int (.ofNat 6)), (.int (.ofNat 7)), (.int (.ofNat 1)), (.int (.ofNat 0)), (.int (.ofNat 2)), (.int (.ofNat 3)), (.int (.ofNat 5)), (.int (.ofNat 4))]), (.lst [(.int (.ofNat 7)), (.int (.ofNat 6)), (.int (.ofNat 5)), (.int (.ofNat 4)), (.int (.ofNat 3)), (.int (.ofNat 2)), (.int (.ofNat 1)), (.int (.ofNat 0))])]), (.lst [(.int (.ofNat 0)), (.int (.ofNat 1)), (.int (.ofNat 2)), (.int (.ofNat 6)), (.int (.ofNat 4)), (.int (.ofNat 5)), (.int (.ofNat 3)), (.int (.ofNat 7))])])
def T_d4 : D := (.ins 236 [Str.ofString "_moves", Str.ofString "_members", Str.ofString "_products", Str.ofString "_inverses"] [(.tup [(.tup [(.int (.ofNat 0)), (.int (.ofNat 1)), (.int (.ofNat 2)), (.int (.ofNat 3))]), (.tup [(.int (.ofNat 0)), (.int (.ofNat 3)), (.int (.ofNat 2)), (.int (.ofNat 1))]), (.tup [(.int (.ofNat 1)), (.int (.ofNat 0)), (.int (.ofNat 3)), (.int (.ofNat 2))]), (.tup [(.int (.ofNat 1)), (.int (.ofNat 2)), (.int (.ofNat 3)), (.int (.ofNat 0))]), (.tup [(.int (.ofNat 2)), (.int (.ofNat 1)), (.int (.ofNat 0)), (.int (.ofNat 3))]), (.tup [(.int (.ofNat 2)), (.int (.ofNat 3)), (.int (.ofNat 0)), (.int (.ofNat 1))]), (.tup [(.int (.ofNat 3)), (.int (.ofNat 0)), (.int (.ofNat 1)), (.int (.ofNat 2))]), (.tup [(.int (.ofNat 3)), (.int (.ofNat 2)), (.int (.ofNat 1)), (.int (.ofNat 0))])]), (.tup [(.int (.ofNat 0)), (.int (.ofNat 1)), (.int (.ofNat 2)), (.int (.ofNat 3)), (.int (.ofNat 4)), (.int (.ofNat 5)), (.int (.ofNat 6)), (.int (.ofNat 7))]), (.tup [(.ftup [(.int (.ofNat 0)), (.int (.ofNat 1)), (.int (.ofNat 2)), (.int (.ofNat 3)), (.int (.ofNat 4)), (.int (.ofNat 5)), (.int (.ofNat 6)), (.int (.ofNat 7))]), (.ftup [(.int (.ofNat 1)), (.int (.ofNat 0)), (.int (.ofNat 6)), (.int (.ofNat 7)), (.int (.ofNat 5)), (.int (.ofNat 4)), (.int (.ofNat 2)), (.int (.ofNat 3))]), (.ftup [(.int (.ofNat 2)), (.int (.ofNat 3)), (.int (.ofNat 0)), (.int (.ofNat 1)), (.int (.ofNat 6)), (.int (.ofNat 7)), (.int (.ofNat 4)), (.int (.ofNat 5))]), (.ftup [(.int (.ofNat 3)), (.int (.ofNat 2)), (.int (.ofNat 4)), (.int (.ofNat 5)), (.int (.ofNat 7)), (.int (.ofNat 6)), (.int (.ofNat 0)), (.int (.ofNat 1))]), (.ftup [(.int (.ofNat 4)), (.int (.ofNat 5)), (.int (.ofNat 3)), (.int (.ofNat 2)), (.int (.ofNat 0)), (.int (.ofNat 1)), (.int (.ofNat 7)), (.int (.ofNat 6))]), (.ftup [(.int (.ofNat 5)), (.int (.ofNat 4)), (.int (.ofNat 7)), (.int (.ofNat 6)), (.int (.ofNat 1)), (.int (.ofNat 0)), (.int (.ofNat 3)), (.int (.ofNat 2))]), (.ftup [(.int (.ofNat 6)), (.int (.ofNat 7)), (.int (.ofNat 1)), (.int (.ofNat 0)), (.int (.ofNat 2)), (.int (.ofNat 3)), (.int (.ofNat 5)), (.int (.ofNat 4))]), (.ftup [(.int (.ofNat 7)), (.int (.ofNat 6)), (.int (.ofNat 5)), (.int (.ofNat 4)), (.int (.ofNat 3)), (.int (.ofNat 2)), (.int (.ofNat 1)), (.int (.ofNat 0))])]), (.tup [(.int (.ofNat 0)), (.int (.ofNat 1)), (.int (.ofNat 2)), (.int (.ofNat 6)), (.int (.ofNat 4)), (.int (.ofNat 5)), (.int (.ofNat 3)), (.int (.ofNat 7))])])
def b_d4 : D := (.lst [(.lst [(.int (.ofNat 0)), (.int (.ofNat 1)), (.int (.ofNat 2)), (.int (.ofNat 3)), (.int (.ofNat 4)), (.int (.ofNat 5)), (.int (.ofNat 6)), (.int (.ofNat 7))]), (.lst [(.int (.ofNat 1)), (.int (.ofNat 0)), (.int (.ofNat 6)), (.int (.ofNat 7)), (.int (.ofNat 5)), (.int (.ofNat 4)), (.int (.ofNat 2)), (.int (.ofNat 3))]), (.lst [(.int (.ofNat 2)), (.int (.ofNat 3)), (.int (.ofNat 0)), (.int (.ofNat 1)), (.int (.ofNat 6)), (.int (.ofNat 7)), (.int (.ofNat 4)), (.int (.ofNat 5))]), (.lst [(.int (.ofNat 3)), (.int (.ofNat 2)), (.int (.ofNat 4)), (.int (.ofNat 5)), (.int (.ofNat 7)), (.int (.ofNat 6)), (.int (.ofNat 0)), (.int (.ofNat 1))]), (.lst [(.int (.ofNat 4)), (.int (.ofNat 5)), (.int (.ofNat 3)), (.int (.ofNat 2)), (.int (.ofNat 0)), (.int (.ofNat 1)), (.int (.ofNat 7)), (.int (.ofNat 6))]), (.lst [(.int (.ofNat 5)), (.int (.ofNat 4)), (.int (.ofNat 7)), (.int (.ofNat 6)), (.int (.ofNat 1)), (.int (.ofNat 0)), (.int (.ofNat 3)), (.int (.ofNat 2))]), (.lst [(.int (.ofNat 6)), (.int (.ofNat 7)), (.int (.ofNat 1)), (.int (.ofNat 0)), (.int (.ofNat 2)), (.int (.ofNat 3)), (.int (.ofNat 5)), (.int (.ofNat 4))]), (.lst [(.int (.ofNat 7)), (.int (.ofNat 6)), (.int (.ofNat 5)), (.int (.ofNat 4)), (.int (.ofNat 3)), (.int (.ofNat 2)), (.int (.ofNat 1)), (.int (.ofNat 0))])])
def P_d4 : List D := [(.tup [(.int (.ofNat 0))]), (.tup [(.int (.ofNat 0)), (.int (.ofNat 1))]), (.tup [(.int (.ofNat 0)), (.int (.ofNat 2))]), (.tup [(.int (.ofNat 0)), (.int (.ofNat 3)), (.int (.ofNat 5)), (.int (.ofNat 6))]), (.tup [(.int (.ofNat 0)), (.int (.ofNat 4))]), (.tup [(.int (.ofNat 0)), (.int (.ofNat 5))]), (.tup [(.int (.ofNat 0)), (.int (.ofNat 7))]), (.tup [(.int (.ofNat 0)), (.int (.ofNat 1)), (.int (.ofNat 2)), (.int (.ofNat 3)), (.int (.ofNat 4)), (.int (.ofNat 5)), (.int (.ofNat 6)), (.int (.ofNat 7))]), (.tup [(.int (.ofNat 0)), (.int (.ofNat 1)), (.int (.ofNat 4)), (.int (.ofNat 5))]), (.tup [(.int (.ofNat 0)), (.int (.ofNat 2)), (.int (.ofNat 5)), (.int (.ofNat 7))])]
theorem mv_ok_d4 : fGet ready (.str (Str.ofString "d4")) = some (some mv_d4) := by
  have h : odb ((fGet ready (.str (Str.ofString "d4"))).bind id) (fun q => eqb q mv_d4) = true := by decide +kernel
  obtain ⟨q, e, h⟩ := odb_ok h
  obtain ⟨o, e1, e2⟩ := Option.bind_eq_some_iff.mp e
  cases e2
  rw [e1, eqb_ok h]
theorem g_d4 : r_law_group [mv_d4] = some G_d4 := oeq_ok (by decide +kernel)
theorem r_d4 : mr2 (.unk :: st0 G_d4) = some (.nx (.unk :: st1 G_d4 T_d4 b_d4 (.int (.ofNat 8)))) := nxeq_ok (by decide +kernel)
theorem z_d4 : fGetI G_d4 (.str "size") = some (.int (.ofNat 8)) := oeq_ok (by decide +kernel)
theorem d1_d4 : r_law_parts_of_size [G_d4, .int (.ofNat 1)] = some (.lst [(.tup [(.int (.ofNat 0))])]) := oeq_ok (by decide +kernel)
theorem d8_d4 : r_law_parts_of_size [G_d4, .int (.ofNat 8)] = some (.lst [(.tup [(.int (.ofNat 0)), (.int (.ofNat 1)), (.int (.ofNat 2)), (.int (.ofNat 3)), (.int (.ofNat 4)), (.int (.ofNat 5)), (.int (.ofNat 6)), (.int (.ofNat 7))])]) := oeq_ok (by decide +kernel)
theorem p2_d4 : r_law_prime_right [G_d4, T_d4, .int 2] = some (.bl true) := chkPr_ok d8_d4 (by decide +kernel)
theorem p3_d4 : r_law_prime_right [G_d4, T_d4, .int 3] = some (.bl true) := chkPr_ok d1_d4 (by decide +kernel)
theorem p5_d4 : r_law_prime_right [G_d4, T_d4, .int 5] = some (.bl true) := chkPr_ok d1_d4 (by decide +kernel)
theorem p7_d4 : r_law_prime_right [G_d4, T_d4, .int 7] = some (.bl true) := chkPr_ok d1_d4 (by decide +kernel)
theorem p11_d4 : r_law_prime_right [G_d4, T_d4, .int 11] = some (.bl true) := chkPr_ok d1_d4 (by decide +kernel)
theorem p13_d4 : r_law_prime_right [G_d4, T_d4, .int 13] = some (.bl true) := chkPr_ok d1_d4 (by decide +kernel)
theorem p17_d4 : r_law_prime_right [G_d4, T_d4, .int 17] = some (.bl true) := chkPr_ok d1_d4 (by decide +kernel)
theorem p19_d4 : r_law_prime_right [G_d4, T_d4, .int 19] = some (.bl true) := chkPr_ok d1_d4 (by decide +kernel)
theorem p23_d4 : r_law_prime_right [G_d4, T_d4, .int 23] = some (.bl true) := chkPr_ok d1_d4 (by decide +kernel)
theorem p29_d4 : r_law_prime_right [G_d4, T_d4, .int 29] = some (.bl true) := chkPr_ok d1_d4 (by decide +kernel)
theorem p31_d4 : r_law_prime_right [G_d4, T_d4, .int 31] = some (.bl true) := chkPr_ok d1_d4 (by decide +kernel)
theorem m_d4 : (menu 8).all (chkMs G_d4 P_d4) = true := by decide +kernel
theorem bd_d4 : P_d4.all (chkBd (st1 G_d4 T_d4 b_d4 (.int (.ofNat 8)))) = true := by decide +kernel
theorem en_d4 : chkEn (st1 G_d4 T_d4 b_d4 (.int (.ofNat 8))) = true := by decide +kernel
theorem good_d4 : Good G_d4 T_d4 b_d4 (.ofNat 8) where
  r2 := r_d4
  n0 := by decide
  n1 := by decide
  sz := z_d4
  pr := fun p hp => by
    unfold primes at hp
    simp only [List.mem_cons, List.not_mem_nil, or_false] at hp
    rcases hp with rfl | rfl | rfl | rfl | rfl | rfl | rfl | rfl | rfl | rfl | rfl
    · exact p2_d4
    · exact p3_d4
    · exact p5_d4
    · exact p7_d4
    · exact p11_d4
    · exact p13_d4
    · exact p17_d4
    · exact p19_d4
    · exact p23_d4
    · exact p29_d4
    · exact p31_d4
  pt := pt_ok (k := 8) m_d4 bd_d4
  en := chkEn_ok en_d4
end K2

namespace K2
open PySem PySem.Spec L2 DL DN
def mv_d5 : D := (.tup [(.tup [(.int (.ofNat 1)), (.int (.ofNat 2)), (.int (.ofNat 3)), (.int (.ofNat 4)), (.int (.ofNat 0))]), (.tup [(.int (.ofNat 0)), (.int (.ofNat 4)), (.int (.ofNat 3)), (.int (.ofNat 2)), (.int (.ofNat 1))])])
def G_d5 : D := (.dct false [(.str (Str.ofString "moves")), (.str (Str.ofString "every")), (.str (Str.ofString "size")), (.str (Str.ofString "table")), (.str (Str.ofString "back"))] [(.tup [(.tup [(.int (.ofNat 1)), (.int (.ofNat 2)), (.int (.ofNat 3)), (.int (.ofNat 4)), (.int (.ofNat 0))]), (.tup [(.int (.ofNat 0)), (.int (.ofNat 4)), (.int (.ofNat 3)), (.int (.ofNat 2)), (.int (.ofNat 1))])]), (.lst [(.tup [(.int (.ofNat 0)), (.int (.ofNat 1)), (.int (.ofNat 2)), (.int (.ofNat 3)), (.int (.ofNat 4))]), (.tup [(.int (.ofNat 0)), (.int (.ofNat 4)), (.int (.ofNat 3)), (.int (.ofNat 2)), (.int (.ofNat 1))]), (.tup [(.int (.ofNat 1)), (.int (.ofNat 0)), (.int (.ofNat 4)), (.int (.ofNat 3)), (.int (.ofNat 2))]), (.tup [(.int (.ofNat 1)), (.int (.ofNat 2)), (.int (.ofNat 3)), (.int (.ofNat 4)), (.int (.ofNat 0))]), (.tup [(.int (.ofNat 2)), (.int (.ofNat 1)), (.int (.ofNat 0)), (.int (.ofNat 4)), (.int (.ofNat 3))]), (.tup [(.int (.ofNat 2)), (.int (.ofNat 3)), (.int (.ofNat 4)), (.int (.ofNat 0)), (.int (.ofNat 1))]), (.tup [(.int (.ofNat 3)), (.int (.ofNat 2)), (.int (.ofNat 1)), (.int (.ofNat 0)), (.int (.ofNat 4))]), (.tup [(.int (.ofNat 3)), (.int (.ofNat 4)), (.int (.ofNat 0)), (.int (.ofNat 1)), (.int (.ofNat 2))]), (.tup [(.int (.ofNat 4)), (.int (.ofNat 0)), (.int (.ofNat 1)), (.int (.ofNat 2)), (.int (.ofNat 3))]), (.tup [(.int (.ofNat 4)), (.int (.ofNat 3)), (.int (.ofNat 2)), (.int (.ofNat 1)), (.int (.ofNat 0))])]), (.int (.ofNat 10)), (.lst [(.lst [(.int (.ofNat 0)), (.int (.ofNat 1)), (.int (.ofNat 2)), (.int (.ofNat 3)), (.int (.ofNat 4)), (.int (.ofNat 5)), (.int (.ofNat 6)), (.int (.ofNat 7)), (.int (.ofNat 8)), (.int (.ofNat 9))]), (.lst [(.int (.ofNat 1)), (.int (.ofNat 0)), (.int (.ofNat 8)), (.int (.ofNat 9)), (.int (.ofNat 7)), (.int (.ofNat 6)), (.int (.ofNat 5)), (.int (.ofNat 4)), (.int (.ofNat 2)), (.int (.ofNat 3))]), (.lst [(.int (.ofNat 2)), (.int (.ofNat 3)), (.int (.ofNat 0)), (.int (.ofNat 1)), (.int (.ofNat 8)), (.int (.ofNat 9)), (.int (.ofNat 7)), (.int (.ofNat 6)), (.int (.ofNat 4)), (.int (.ofNat 5))]), (.lst [(.int (.ofNat 3)), (.int (.ofNat 2)), (.int (.ofNat 4)), (.int (.ofNat 5)), (.int (.ofNat 6)), (.int (.ofNat 7)), (.int (.ofNat 9)), (.int (.ofNat 8)), (.int (.ofNat 0)), (.int (.ofNat 1))]), (.lst [(.int (.ofNat 4)), (.int (.ofNat 5)), (.int (.ofNat 3)), (.int (.ofNat 2)), (.int (.ofNat 0)), (.int (.ofNat 1)), (.int (.ofNat 8)), (.int (.ofNat 9)), (.int (.ofNat 6)), (.int (.ofNat 7))]), (.lst [(.int (.ofNat 5)), (.int (.ofNat 4)), (.int (.ofNat 6)), (.int (.ofNat 7)), (.int (.ofNat 9)), (.int (.ofNat 8)), (.int (.ofNat 1)), (.int (.ofNat 0)), (.int (.ofNat 3)), (.int (.ofNat 2))]), (.lst [(.int (.ofNat 6)), (.int (.ofNat 7)), (.int (.ofNat 5)), (.int (.ofNat 4)), (.int (.ofNat 3)), (.int (.ofNat 2)), (.int (.ofNat 0)), (.int (.ofNat 1)), (.int (.ofNat 9)), (.int (.ofNat 8))]), (.lst [(.int (.ofNat 7)), (.int (.ofNat 6)), (.int (.ofNat 9)), (.int (.ofNat 8)), (.int (.ofNat 1)), (.int (.ofNat 0)), (.int (.ofNat 2)), (.int (.ofNat 3)), (.int (.ofNat 5)), (.int (.ofNat 4))]), (.lst [(.int (.ofNat 8)), (.int (.ofNat 9)), (.int (.ofNat 1)), (.int (.ofNat 0)), (.int (.ofNat 2)), (.int (.ofNat 3)), (.int (.ofNat 4)), (.int (.ofNat 5)), (.int (.ofNat 7)), (.int (.ofNat 6))]), (.lst [(.int (.ofNat 9)), (.int (.ofNat 8)), (.int (.ofNat 7)), (.int (.ofNat 6)), (.int (.ofNat 5)), (.int (.ofNat 4)), (.int (.ofNat 3)), (.int (.ofNat 2)), (.int (.ofNat 1)), (.int (.ofNat 0))])]), (.lst [(.int (.ofNat 0)), (.int (.ofNat 1)), (.int (.ofNat 2)), (.int (.ofNat 8)), (.int (.ofNat 4)), (.int (.ofNat 7)), (.int (.ofNat 6)), (.int (.ofNat 5)), (.int (.ofNat 3)), (.int (.ofNat 9))])])
def T_d5 : D := (.ins 236 [Str.ofString "_moves", Str.ofString "_members", Str.ofString "_products", Str.ofString "_inverses"] [(.tup [(.tup [(.int (.ofNat 0)), (.int (.ofNat 1)), (.int (.ofNat 2)), (.int (.ofNat 3)), (.int (.ofNat 4))]), (.tup [(.int (.ofNat 0)), (.int (.ofNat 4)), (.int (.ofNat 3)), (.int (.ofNat 2)), (.int (.ofNat 1))]), (.tup [(.int (.ofNat 1)), (.int (.ofNat 0)), (.int (.ofNat 4)), (.int (.ofNat 3)), (.int (.ofNat 2))]), (.tup [(.int (.ofNat 1)), (.int (.ofNat 2)), (.int (.ofNat 3)), (.int (.ofNat 4)), (.int (.ofNat 0))]), (.tup [(.int (.ofNat 2)), (.int (.ofNat 1)), (.int (.ofNat 0)), (.int (.ofNat 4)), (.int (.ofNat 3))]), (.tup [(.int (.ofNat 2)), (.int (.ofNat 3)), (.int (.ofNat 4)), (.int (.ofNat 0)), (.int (.ofNat 1))]), (.tup [(.int (.ofNat 3)), (.int (.ofNat 2)), (.int (.ofNat 1)), (.int (.ofNat 0)), (.int (.ofNat 4))]), (.tup [(.int (.ofNat 3)), (.int (.ofNat 4)), (.int (.ofNat 0)), (.int (.ofNat 1)), (.int (.ofNat 2))]), (.tup [(.int (.ofNat 4)), (.int (.ofNat 0)), (.int (.ofNat 1)), (.int (.ofNat 2)), (.int (.ofNat 3))]), (.tup [(.int (.ofNat 4)), (.int (.ofNat 3)), (.int (.ofNat 2)), (.int (.ofNat 1)), (.int (.ofNat 0))])]), (.tup [(.int (.ofNat 0)), (.int (.ofNat 1)), (.int (.ofNat 2)), (.int (.ofNat 3)), (.int (.ofNat 4)), (.int (.ofNat 5)), (.int (.ofNat 6)), (.int (.ofNat 7)), (.int (.ofNat 8)), (.int (.ofNat 9))]), (.tup [(.ftup [(.int (.ofNat 0)), (.int (.ofNat 1)), (.int (.ofNat 2)), (.int (.ofNat 3)), (.int (.ofNat 4)), (.int (.ofNat 5)), (.int (.ofNat 6)), (.int (.ofNat 7)), (.int (.ofNat 8)), (.int (.ofNat 9))]), (.ftup [(.int (.ofNat 1)), (.int (.ofNat 0)), (.int (.ofNat 8)), (.int (.ofNat 9)), (.int (.ofNat 7)), (.int (.ofNat 6)), (.int (.ofNat 5)), (.int (.ofNat 4)), (.int (.ofNat 2)), (.int (.ofNat 3))]), (.ftup [(.int (.ofNat 2)), (.int (.ofNat 3)), (.int (.ofNat 0)), (.int (.ofNat 1)), (.int (.ofNat 8)), (.int (.ofNat 9)), (.int (.ofNat 7)), (.int (.ofNat 6)), (.int (.ofNat 4)), (.int (.ofNat 5))]), (.ftup [(.int (.ofNat 3)), (.int (.ofNat 2)), (.int (.ofNat 4)), (.int (.ofNat 5)), (.int (.ofNat 6)), (.int (.ofNat 7)), (.int (.ofNat 9)), (.int (.ofNat 8)), (.int (.ofNat 0)), (.int (.ofNat 1))]), (.ftup [(.int (.ofNat 4)), (.int (.ofNat 5)), (.int (.ofNat 3)), (.int (.ofNat 2)), (.int (.ofNat 0)), (.int (.ofNat 1)), (.int (.ofNat 8)), (.int (.ofNat 9)), (.int (.ofNat 6)), (.int (.ofNat 7))]), (.ftup [(.int (.ofNat 5)), (.int (.ofNat 4)), (.int (.ofNat 6)), (.int (.ofNat 7)), (.int (.ofNat 9)), (.int (.ofNat 8)), (.int (.ofNat 1)), (.int (.ofNat 0)), (.int (.ofNat 3)), (.int (.ofNat 2))]), (.ftup [(.int (.ofNat 6)), (.int (.ofNat 7)), (.int (.ofNat 5)), (.int (.ofNat 4)), (.int (.ofNat 3)), (.int (.ofNat 2)), (.int (.ofNat 0)), (.int (.ofNat 1)), (.int (.ofNat 9)), (.int (.ofNat 8))]), (.ftup [(.int (.ofNat 7)), (.int (.ofNat 6)), (.int (.ofNat 9)), (.int (.ofNat 8)), (.int (.ofNat 1)), (.int (.ofNat 0)), (.int (.ofNat 2)), (.int (.ofNat 3)), (.int (.ofNat 5)), (.int (.ofNat 4))]), (.ftup [(.int (.ofNat 8)), (.int (.ofNat 9)), (.int (.ofNat 1)), (.int (.ofNat 0)), (.int (.ofNat 2)), (.int (.ofNat 3)), (.int (.ofNat 4)), (.int (.ofNat 5)), (.int (.ofNat 7)), (.int (.ofNat 6))]), (.ftup [(.int (.ofNat 9)), (.int (.ofNat 8)), (.int (.ofNat 7)), (.int (.ofNat 6)), (.int (.ofNat 5)), (.int (.ofNat 4)), (.int (.ofNat 3)), (.int (.ofNat 2)), (.int (.ofNat 1)), (.int (.ofNat 0))])]), (.tup [(.int (.ofNat 0)), (.int (.ofNat 1)), (.int (.ofNat 2)), (.int (.ofNat 8)), (.int (.ofNat 4)), (.int (.ofNat 7)), (.int (.ofNat 6)), (.int (.ofNat 5)), (.int (.ofNat 3)), (.int (.ofNat 9))])])
def b_d5 : D := (.lst [(.lst [(.int (.ofNat 0)), (.int (.ofNat 1)), (.int (.ofNat 2)), (.int (.ofNat 3)), (.int (.ofNat 4)), (.int (.ofNat 5)), (.int (.ofNat 6)), (.int (.ofNat 7)), (.int (.ofNat 8)), (.int (.ofNat 9))]), (.lst [(.int (.ofNat 1)), (.int (.ofNat 0)), (.int (.ofNat 8)), (.int (.ofNat 9)), (.int (.ofNat 7)), (.int (.ofNat 6)), (.int (.ofNat 5)), (.int (.ofNat 4)), (.int (.ofNat 2)), (.int (.ofNat 3))]), (.lst [(.int (.ofNat 2)), (.int (.ofNat 3)), (.int (.ofNat 0)), (.int (.ofNat 1)), (.int (.ofNat 8)), (.int (.ofNat 9)), (.int (.ofNat 7)), (.int (.ofNat 6)), (.int (.ofNat 4)), (.int (.ofNat 5))]), (.lst [(.int (.ofNat 3)), (.int (.ofNat 2)), (.int (.ofNat 4)), (.int (.ofNat 5)), (.int (.ofNat 6)), (.int (.ofNat 7)), (.int (.ofNat 9)), (.int (.ofNat 8)), (.int (.ofNat 0)), (.int (.ofNat 1))]), (.lst [(.int (.ofNat 4)), (.int (.ofNat 5)), (.int (.ofNat 3)), (.int (.ofNat 2)), (.int (.ofNat 0)), (.int (.ofNat 1)), (.int (.ofNat 8)), (.int (.ofNat 9)), (.int (.ofNat 6)), (.int (.ofNat 7))]), (.lst [(.int (.ofNat 5)), (.int (.ofNat 4)), (.int (.ofNat 6)), (.int (.ofNat 7)), (.int (.ofNat 9)), (.int (.ofNat 8)), (.int (.ofNat 1)), (.int (.ofNat 0)), (.int (.ofNat 3)), (.int (.ofNat 2))]), (.lst [(.int (.ofNat 6)), (.int (.ofNat 7)), (.int (.ofNat 5)), (.int (.ofNat 4)), (.int (.ofNat 3)), (.int (.ofNat 2)), (.int (.ofNat 0)), (.int (.ofNat 1)), (.int (.ofNat 9)), (.int (.ofNat 8))]), (.lst [(.int (.ofNat 7)), (.int (.ofNat 6)), (.int (.ofNat 9)), (.int (.ofNat 8)), (.int (.ofNat 1)), (.int (.ofNat 0)), (.int (.ofNat 2)), (.int (.ofNat 3)), (.int (.ofNat 5)), (.int (.ofNat 4))]), (.lst [(.int (.ofNat 8)), (.int (.ofNat 9)), (.int (.ofNat 1)), (.int (.ofNat 0)), (.int (.ofNat 2)), (.int (.ofNat 3)), (.int (.ofNat 4)), (.int (.ofNat 5)), (.int (.ofNat 7)), (.int (.ofNat 6))]), (.lst [(.int (.ofNat 9)), (.int (.ofNat 8)), (.int (.ofNat 7)), (.int (.ofNat 6)), (.int (.ofNat 5)), (.int (.ofNat 4)), (.int (.ofNat 3)), (.int (.ofNat 2)), (.int (.ofNat 1)), (.int (.ofNat 0))])])
def P_d5 : List D := [(.tup [(.int (.ofNat 0))]), (.tup [(.int (.ofNat 0)), (.int (.ofNat 1))]), (.tup [(.int (.ofNat 0)), (.int (.ofNat 2))]), (.tup [(.int (.ofNat 0)), (.int (.ofNat 3)), (.int (.ofNat 5)), (.int (.ofNat 7)), (.int (.ofNat 8))]), (.tup [(.int (.ofNat 0)), (.int (.ofNat 4))]), (.tup [(.int (.ofNat 0)), (.int (.ofNat 6))]), (.tup [(.int (.ofNat 0)), (.int (.ofNat 9))]), (.tup [(.int (.ofNat 0)), (.int (.ofNat 1)), (.int (.ofNat 2)), (.int (.ofNat 3)), (.int (.ofNat 4)), (.int (.ofNat 5)), (.int (.ofNat 6)), (.int (.ofNat 7)), (.int (.ofNat 8)), (.int (.ofNat 9))])]
theorem mv_ok_d5 : fGet ready (.str (Str.ofString "d5")) = some (some mv_d5) := by
  have h : odb ((fGet ready (.str (Str.ofString "d5"))).bind id) (fun q => eqb q mv_d5) = true := by decide +kernel
  obtain ⟨q, e, h⟩ := odb_ok h
  obtain ⟨o, e1, e2⟩ := Option.bind_eq_some_iff.mp e
  cases e2
  rw [e1, eqb_ok h]
theorem g_d5 : r_law_group [mv_d5] = some G_d5 := oeq_ok (by decide +kernel)
theorem r_d5 : mr2 (.unk :: st0 G_d5) = some (.nx (.unk :: st1 G_d5 T_d5 b_d5 (.int (.ofNat 10)))) := nxeq_ok (by decide +kernel)
theorem z_d5 : fGetI G_d5 (.str "size") = some (.int (.ofNat 10)) := oeq_ok (by decide +kernel)
theorem d1_d5 : r_law_parts_of_size [G_d5, .int (.ofNat 1)] = some (.lst [(.tup [(.int (.ofNat 0))])]) := oeq_ok (by decide +kernel)
theorem d2_d5 : r_law_parts_of_size [G_d5, .int (.ofNat 2)] = some (.lst [(.tup [(.int (.ofNat 0)), (.int (.ofNat 1))]), (.tup [(.int (.ofNat 0)), (.int (.ofNat 2))]), (.tup [(.int (.ofNat 0)), (.int (.ofNat 4))]), (.tup [(.int (.ofNat 0)), (.int (.ofNat 6))]), (.tup [(.int (.ofNat 0)), (.int (.ofNat 9))])]) := oeq_ok (by decide +kernel)
theorem d5_d5 : r_law_parts_of_size [G_d5, .int (.ofNat 5)] = some (.lst [(.tup [(.int (.ofNat 0)), (.int (.ofNat 3)), (.int (.ofNat 5)), (.int (.ofNat 7)), (.int (.ofNat 8))])]) := oeq_ok (by decide +kernel)
theorem p2_d5 : r_law_prime_right [G_d5, T_d5, .int 2] = some (.bl true) := chkPr_ok d2_d5 (by decide +kernel)
theorem p3_d5 : r_law_prime_right [G_d5, T_d5, .int 3] = some (.bl true) := chkPr_ok d1_d5 (by decide +kernel)
theorem p5_d5 : r_law_prime_right [G_d5, T_d5, .int 5] = some (.bl true) := chkPr_ok d5_d5 (by decide +kernel)
theorem p7_d5 : r_law_prime_right [G_d5, T_d5, .int 7] = some (.bl true) := chkPr_ok d1_d5 (by decide +kernel)
theorem p11_d5 : r_law_prime_right [G_d5, T_d5, .int 11] = some (.bl true) := chkPr_ok d1_d5 (by decide +kernel)
theorem p13_d5 : r_law_prime_right [G_d5, T_d5, .int 13] = some (.bl true) := chkPr_ok d1_d5 (by decide +kernel)
theorem p17_d5 : r_law_prime_right [G_d5, T_d5, .int 17] = some (.bl true) := chkPr_ok d1_d5 (by decide +kernel)
theorem p19_d5 : r_law_prime_right [G_d5, T_d5, .int 19] = some (.bl true) := chkPr_ok d1_d5 (by decide +kernel)
theorem p23_d5 : r_law_prime_right [G_d5, T_d5, .int 23] = some (.bl true) := chkPr_ok d1_d5 (by decide +kernel)
theorem p29_d5 : r_law_prime_right [G_d5, T_d5, .int 29] = some (.bl true) := chkPr_ok d1_d5 (by decide +kernel)
theorem p31_d5 : r_law_prime_right [G_d5, T_d5, .int 31] = some (.bl true) := chkPr_ok d1_d5 (by decide +kernel)
theorem m_d5 : (menu 10).all (chkMs G_d5 P_d5) = true := by decide +kernel
theorem bd_d5 : P_d5.all (chkBd (st1 G_d5 T_d5 b_d5 (.int (.ofNat 10)))) = true := by decide +kernel
theorem en_d5 : chkEn (st1 G_d5 T_d5 b_d5 (.int (.ofNat 10))) = true := by decide +kernel
theorem good_d5 : Good G_d5 T_d5 b_d5 (.ofNat 10) where
  r2 := r_d5
  n0 := by decide
  n1 := by decide
  sz := z_d5
  pr := fun p hp => by
    unfold primes at hp
    simp only [List.mem_cons, List.not_mem_nil, or_false] at hp
    rcases hp with rfl | rfl | rfl | rfl | rfl | rfl | rfl | rfl | rfl | rfl | rfl
    · exact p2_d5
    · exact p3_d5
    · exact p5_d5
    · exact p7_d5
    · exact p11_d5
    · exact p13_d5
    · exact p17_d5
    · exact p19_d5
    · exact p23_d5
    · exact p29_d5
    · exact p31_d5
  pt := pt_ok (k := 10) m_d5 bd_d5
  en := chkEn_ok en_d5
end K2

namespace K2
open PySem PySem.Spec L2 DL DN
def mv_d6 : D := (.tup [(.tup [(.int (.ofNat 1)), (.int (.ofNat 2)), (.int (.ofNat 3)), (.int (.ofNat 4)), (.int (.ofNat 5)), (.int (.ofNat 0))]), (.tup [(.int (.ofNat 0)), (.int (.ofNat 5)), (.int (.ofNat 4)), (.int (.ofNat 3)), (.int (.ofNat 2)), (.int (.ofNat 1))])])
def G_d6 : D := (.dct false [(.str (Str.ofString "moves")), (.str (Str.ofString "every")), (.str (Str.ofString "size")), (.str (Str.ofString "table")), (.str (Str.ofString "back"))] [(.tup [(.tup [(.int (.ofNat 1)), (.int (.ofNat 2)), (.int (.ofNat 3)), (.int (.ofNat 4)), (.int (.ofNat 5)), (.int (.ofNat 0))]), (.tup [(.int (.ofNat 0)), (.int (.ofNat 5)), (.int (.ofNat 4)), (.int (.ofNat 3)), (.int (.ofNat 2)), (.int (.ofNat 1))])]), (.lst [(.tup [(.int (.ofNat 0)), (.int (.ofNat 1)), (.int (.ofNat 2)), (.int (.ofNat 3)), (.int (.ofNat 4)), (.int (.ofNat 5))]), (.tup [(.int (.ofNat 0)), (.int (.ofNat 5)), (.int (.ofNat 4)), (.int (.ofNat 3)), (.int (.ofNat 2)), (.int (.ofNat 1))]), (.tup [(.int (.ofNat 1)), (.int (.ofNat 0)), (.int (.ofNat 5)), (.int (.ofNat 4)), (.int (.ofNat 3)), (.int (.ofNat 2))]), (.tup [(.int (.ofNat 1)), (.int (.ofNat 2)), (.int (.ofNat 3)), (.int (.ofNat 4)), (.int (.ofNat 5)), (.int (.ofNat 0))]), (.tup [(.int (.ofNat 2)), (.int (.ofNat 1)), (.int (.ofNat 0)), (.int (.ofNat 5)), (.int (.ofNat 4)), (.int (.ofNat 3))]), (.tup [(.int (.ofNat 2)), (.int (.ofNat 3)), (.int (.ofNat 4)), (.int (.ofNat 5)), (.int (.ofNat 0)), (.int (.ofNat 1))]), (.tup [(.int (.ofNat 3)), (.int (.ofNat 2)), (.int (.ofNat 1)), (.int (.ofNat 0)), (.int (.ofNat 5)), (.int (.ofNat 4))]), (.tup [(.int (.ofNat 3)), (.int (.ofNat 4)), (.int (.ofNat 5)), (.int (.ofNat 0)), (.int (.ofNat 1)), (.int (.ofNat 2))]), (.tup [(.int (.ofNat 4)), (.int (.ofNat 3)), (.int (.ofNat 2)), (.int (.ofNat 1)), (.int (.ofNat 0)), (.int (.ofNat 5))]), (.tup [(.int (.ofNat 4)), (.int (.ofNat 5)), (.int (.ofNat 0)), (.int (.ofNat 1)), (.int (.ofNat 2)), (.int (.ofNat 3))]), (.tup [(.int (.ofNat 5)), (.int (.ofNat 0)), (.int (.ofNat 1)), (.int (.ofNat 2)), (.int (.ofNat 3)), (.int (.ofNat 4))]), (.tup [(.int (.ofNat 5)), (.int (.ofNat 4)), (.int (.ofNat 3)), (.int (.ofNat 2)), (.int (.ofNat 1)), (.int (.ofNat 0))])]), (.int (.ofNat 12)), (.lst [(.lst [(.int (.ofNat 0)), (.int (.ofNat 1)), (.int (.ofNat 2)), (.int (.ofNat 3)), (.int (.ofNat 4)), (.int (.ofNat 5)), (.int (.ofNat 6)), (.int (.ofNat 7)), (.int (.ofNat 8)), (.int (.ofNat 9)), (.int (.ofNat 10)), (.int (.ofNat 11))]), (.lst [(.int (.ofNat 1)), (.int (.ofNat 0)), (.int (.ofNat 10)), (.int (.ofNat 11)), (.int (.ofNat 9)), (.int (.ofNat 8)), (.int (.ofNat 7)), (.int (.ofNat 6)), (.int (.ofNat 5)), (.int (.ofNat 4)), (.int (.ofNat 2)), (.int (.ofNat 3))]), (.lst [(.int (.ofNat 2)), (.int (.ofNat 3)), (.int (.ofNat 0)), (.int (.ofNat 1)), (.int (.ofNat 10)), (.int (.ofNat 11)), (.int (.ofNat 9)), (.int (.ofNat 8)), (.int (.ofNat 7)), (.int (.ofNat 6)), (.int (.ofNat 4)), (.int (.ofNat 5))]), (.lst [(.int (.ofNat 3)), (.int (.ofNat 2)), (.int (.ofNat 4)), (.int (.ofNat 5)), (.int (.ofNat 6)), (.int (.ofNat 7)), (.int (.ofNat 8)), (.int (.ofNat 9)), (.int (.ofNat 11)), (.int (.ofNat 10)), (.int (.ofNat 0)), (.int (.ofNat 1))]), (.lst [(.int (.ofNat 4)), (.int (.ofNat 5)), (.int (.ofNat 3)), (.int (.ofNat 2)), (.int (.ofNat 0)), (.int (.ofNat 1)), (.int (.ofNat 10)), (.int (.ofNat 11)), (.int (.ofNat 9)), (.int (.ofNat 8)), (.int (.ofNat 6)), (.int (.ofNat 7))]), (.lst [(.int (.ofNat 5)), (.int (.ofNat 4)), (.int (.ofNat 6)), (.int (.ofNat 7)), (.int (.ofNat 8)), (.int (.ofNat 9)), (.int (.ofNat 11)), (.int (.ofNat 10)), (.int (.ofNat 1)), (.int (.ofNat 0)), (.int (.ofNat 3)), (.int (.ofNat 2))]), (.lst [(.int (.ofNat 6)), (.int (.ofNat 7)), (.int (.ofNat 5)), (.int (.ofNat 4)), (.int (.ofNat 3)), (.int (.ofNat 2)), (.int (.ofNat 0)), (.int (.ofNat 1)), (.int (.ofNat 10)), (.int (.ofNat 11)), (.int (.ofNat 8)), (.int (.ofNat 9))]), (.lst [(.int (.ofNat 7)), (.int (.ofNat 6)), (.int (.ofNat 8)), (.int (.ofNat 9)), (.int (.ofNat 11)), (.int (.ofNat 10)), (.int (.ofNat 1)), (.int (.ofNat 0)), (.int (.ofNat 2)), (.int (.ofNat 3)), (.int (.ofNat 5)), (.int (.ofNat 4))]), (.lst [(.int (.ofNat 8)), (.int (.ofNat 9)), (.int (.ofNat 7)), (.int (.ofNat 6)), (.int (.ofNat 5)), (.int (.ofNat 4)), (.int (.ofNat 3)), (.int (.ofNat 2)), (.int (.ofNat 0)), (.int (.ofNat 1)), (.int (.ofNat 11)), (.int (.ofNat 10))]), (.lst [(.int (.ofNat 9)), (.int (.ofNat 8)), (.int (.ofNat 11)), (.int (.ofNat 10)), (.int (.ofNat 1)), (.int (.ofNat 0)), (.int (.ofNat 2)), (.int (.ofNat 3)), (.int (.ofNat 4)), (.int (.ofNat 5)), (.int (.ofNat 7)), (.int (.ofNat 6))]), (.lst [(.int (.ofNat 10)), (.int (.ofNat 11)), (.int (.ofNat 1)), (.int (.ofNat 0)), (.int (.ofNat 2)), (.int (.ofNat 3)), (.int (.ofNat 4)), (.int (.ofNat 5)), (.int (.ofNat 6)), (.int (.ofNat 7)), (.int (.ofNat 9)), (.int (.ofNat 8))]), (.lst [(.int (.ofNat 11)), (.int (.ofNat 10)), (.int (.ofNat 9)), (.int (.ofNat 8)), (.int (.ofNat 7)), (.int (.ofNat 6)), (.int (.ofNat 5)), (.int (.ofNat 4)), (.int (.ofNat 3)), (.int (.ofNat 2)), (.int (.ofNat 1)), (.int (.ofNat 0))])]), (.lst [(.int (.ofNat 0)), (.int (.ofNat 1)), (.int (.ofNat 2)), (.int (.ofNat 10)), (.int (.ofNat 4)), (.int (.ofNat 9)), (.int (.ofNat 6)), (.int (.ofNat 7)), (.int (.ofNat 8)), (.int (.ofNat 5)), (.int (.ofNat 3)), (.int (.ofNat 11))])])
def T_d6 : D := (.ins 236 [Str.ofString "_moves", Str.ofString "_members", Str.ofString "_products", Str.ofString "_inverses"] [(.tup [(.tup [(.int (.ofNat 0)), (.int (.ofNat 1)), (.int (.ofNat 2)), (.int (.ofNat 3)), (.int (.ofNat 4)), (.int (.ofNat 5))]), (.tup [(.int (.ofNat 0)), (.int (.ofNat 5)), (.int (.ofNat 4)), (.int (.ofNat 3)), (.int (.ofNat 2)), (.int (.ofNat 1))]), (.tup [(.int (.ofNat 1)), (.int (.ofNat 0)), (.int (.ofNat 5)), (.int (.ofNat 4)), (.int (.ofNat 3)), (.int (.ofNat 2))]), (.tup [(.int (.ofNat 1)), (.int (.ofNat 2)), (.int (.ofNat 3)), (.int (.ofNat 4)), (.int (.ofNat 5)), (.int (.ofNat 0))]), (.tup [(.int (.ofNat 2)), (.int (.ofNat 1)), (.int (.ofNat 0)), (.int (.ofNat 5)), (.int (.ofNat 4)), (.int (.ofNat 3))]), (.tup [(.int (.ofNat 2)), (.int (.ofNat 3)), (.int (.ofNat 4)), (.int (.ofNat 5)), (.int (.ofNat 0)), (.int (.ofNat 1))]), (.tup [(.int (.ofNat 3)), (.int (.ofNat 2)), (.int (.ofNat 1)), (.int (.ofNat 0)), (.int (.ofNat 5)), (.int (.ofNat 4))]), (.tup [(.int (.ofNat 3)), (.int (.ofNat 4)), (.int (.ofNat 5)), (.int (.ofNat 0)), (.int (.ofNat 1)), (.int (.ofNat 2))]), (.tup [(.int (.ofNat 4)), (.int (.ofNat 3)), (.int (.ofNat 2)), (.int (.ofNat 1)), (.int (.ofNat 0)), (.int (.ofNat 5))]), (.tup [(.int (.ofNat 4)), (.int (.ofNat 5)), (.int (.ofNat 0)), (.int (.ofNat 1)), (.int (.ofNat 2)), (.int (.ofNat 3))]), (.tup [(.int (.ofNat 5)), (.int (.ofNat 0)), (.int (.ofNat 1)), (.int (.ofNat 2)), (.int (.ofNat 3)), (.int (.ofNat 4))]), (.tup [(.int (.ofNat 5)), (.int (.ofNat 4)), (.int (.ofNat 3)), (.int (.ofNat 2)), (.int (.ofNat 1)), (.int (.ofNat 0))])]), (.tup [(.int (.ofNat 0)), (.int (.ofNat 1)), (.int (.ofNat 2)), (.int (.ofNat 3)), (.int (.ofNat 4)), (.int (.ofNat 5)), (.int (.ofNat 6)), (.int (.ofNat 7)), (.int (.ofNat 8)), (.int (.ofNat 9)), (.int (.ofNat 10)), (.int (.ofNat 11))]), (.tup [(.ftup [(.int (.ofNat 0)), (.int (.ofNat 1)), (.int (.ofNat 2)), (.int (.ofNat 3)), (.int (.ofNat 4)), (.int (.ofNat 5)), (.int (.ofNat 6)), (.int (.ofNat 7)), (.int (.ofNat 8)), (.int (.ofNat 9)), (.int (.ofNat 10)), (.int (.ofNat 11))]), (.ftup [(.int (.ofNat 1)), (.int (.ofNat 0)), (.int (.ofNat 10)), (.int (.ofNat 11)), (.int (.ofNat 9)), (.int (.ofNat 8)), (.int (.ofNat 7)), (.int (.ofNat 6)), (.int (.ofNat 5)), (.int (.ofNat 4)), (.int (.ofNat 2)), (.int (.ofNat 3))]), (.ftup [(.int (.ofNat 2)), (.int (.ofNat 3)), (.int (.ofNat 0)), (.int (.ofNat 1)), (.int (.ofNat 10)), (.int (.ofNat 11)), (.int (.ofNat 9)), (.int (.ofNat 8)), (.int (.ofNat 7)), (.int (.ofNat 6)), (.int (.ofNat 4)), (.int (.ofNat 5))]), (.ftup [(.int (.ofNat 3)), (.int (.ofNat 2)), (.int (.ofNat 4)), (.int (.ofNat 5)), (.int (.ofNat 6)), (.int (.ofNat 7)), (.int (.ofNat 8)), (.int (.ofNat 9)), (.int (.ofNat 11)), (.int (.ofNat 10)), (.int (.ofNat 0)), (.int (.ofNat 1))]), (.ftup [(.int (.ofNat 4)), (.int (.ofNat 5)), (.int (.ofNat 3)), (.int (.ofNat 2)), (.int (.ofNat 0)), (.int (.ofNat 1)), (.int (.ofNat 10)), (.int (.ofNat 11)), (.int (.ofNat 9)), (.int (.ofNat 8)), (.int (.ofNat 6)), (.int (.ofNat 7))]), (.ftup [(.int (.ofNat 5)), (.int (.ofNat 4)), (.int (.ofNat 6)), (.int (.ofNat 7)), (.int (.ofNat 8)), (.int (.ofNat 9)), (.int (.ofNat 11)), (.int (.ofNat 10)), (.int (.ofNat 1)), (.int (.ofNat 0)), (.int (.ofNat 3)), (.int (.ofNat 2))]), (.ftup [(.int (.ofNat 6)), (.int (.ofNat 7)), (.int (.ofNat 5)), (.int (.ofNat 4)), (.int (.ofNat 3)), (.int (.ofNat 2)), (.int (.ofNat 0)), (.int (.ofNat 1)), (.int (.ofNat 10)), (.int (.ofNat 11)), (.int (.ofNat 8)), (.int (.ofNat 9))]), (.ftup [(.int (.ofNat 7)), (.int (.ofNat 6)), (.int (.ofNat 8)), (.int (.ofNat 9)), (.int (.ofNat 11)), (.int (.ofNat 10)), (.int (.ofNat 1)), (.int (.ofNat 0)), (.int (.ofNat 2)), (.int (.ofNat 3)), (.int (.ofNat 5)), (.int (.ofNat 4))]), (.ftup [(.int (.ofNat 8)), (.int (.ofNat 9)), (.int (.ofNat 7)), (.int (.ofNat 6)), (.int (.ofNat 5)), (.int (.ofNat 4)), (.int (.ofNat 3)), (.int (.ofNat 2)), (.int (.ofNat 0)), (.int (.ofNat 1)), (.int (.ofNat 11)), (.int (.ofNat 10))]), (.ftup [(.int (.ofNat 9)), (.int (.ofNat 8)), (.int (.ofNat 11)), (.int (.ofNat 10)), (.int (.ofNat 1)), (.int (.ofNat 0)), (.int (.ofNat 2)), (.int (.ofNat 3)), (.int (.ofNat 4)), (.int (.ofNat 5)), (.int (.ofNat 7)), (.int (.ofNat 6))]), (.ftup [(.int (.ofNat 10)), (.int (.ofNat 11)), (.int (.ofNat 1)), (.int (.ofNat 0)), (.int (.ofNat 2)), (.int (.ofNat 3)), (.int (.ofNat 4)), (.int (.ofNat 5)), (.int (.ofNat 6)), (.int (.ofNat 7)), (.int (.ofNat 9)), (.int (.ofNat 8))]), (.ftup [(.int (.ofNat 11)), (.int (.ofNat 10)), (.int (.ofNat 9)), (.int (.ofNat 8)), (.int (.ofNat 7)), (.int (.ofNat 6)), (.int (.ofNat 5)), (.int (.ofNat 4)), (.int (.ofNat 3)), (.int (.ofNat 2)), (.int (.ofNat 1)), (.int (.ofNat 0))])]), (.tup [(.int (.ofNat 0)), (.int (.ofNat 1)), (.int (.ofNat 2)), (.int (.ofNat 10)), (.int (.ofNat 4)), (.int (.ofNat 9)), (.int (.ofNat 6)), (.int (.ofNat 7)), (.int (.ofNat 8)), (.int (.ofNat 5)), (.int (.ofNat 3)), (.int (.ofNat 11))])])
def b_d6 : D := (.lst [(.lst [(.int (.ofNat 0)), (.int (.ofNat 1)), (.int (.ofNat 2)), (.int (.ofNat 3)), (.int (.ofNat 4)), (.int (.ofNat 5)), (.int (.ofNat 6)), (.int (.ofNat 7)), (.int (.ofNat 8)), (.int (.ofNat 9)), (.int (.ofNat 10)), (.int (.ofNat 11))]), (.lst [(.int (.ofNat 1)), (.int (.ofNat 0)), (.int (.ofNat 10)), (.int (.ofNat 11)), (.int (.ofNat 9)), (.int (.ofNat 8)), (.int (.ofNat 7)), (.int (.ofNat 6)), (.int (.ofNat 5)), (.int (.ofNat 4)), (.int (.ofNat 2)), (.int (.ofNat 3))]), (.lst [(.int (.ofNat 2)), (.int (.ofNat 3)), (.int (.ofNat 0)), (.int (.ofNat 1)), (.int (.ofNat 10)), (.int (.ofNat 11)), (.int (.ofNat 9)), (.int (.ofNat 8)), (.int (.ofNat 7)), (.int (.ofNat 6)), (.int (.ofNat 4)), (.int (.ofNat 5))]), (.lst [(.int (.ofNat 3)), (.int (.ofNat 2)), (.int (.ofNat 4)), (.int (.ofNat 5)), (.int (.ofNat 6)), (.int (.ofNat 7)), (.int (.ofNat 8)), (.int (.ofNat 9)), (.int (.ofNat 11)), (.int (.ofNat 10)), (.int (.ofNat 0)), (.int (.ofNat 1))]), (.lst [(.int (.ofNat 4)), (.int (.ofNat 5)), (.int (.ofNat 3)), (.int (.ofNat 2)), (.int (.ofNat 0)), (.int (.ofNat 1)), (.int (.ofNat 10)), (.int (.ofNat 11)), (.int (.ofNat 9)), (.int (.ofNat 8)), (.int (.ofNat 6)), (.int (.ofNat 7))]), (.lst [(.int (.ofNat 5)), (.int (.ofNat 4)), (.int (.ofNat 6)), (.int (.ofNat 7)), (.int (.ofNat 8)), (.int (.ofNat 9)), (.int (.ofNat 11)), (.int (.ofNat 10)), (.int (.ofNat 1)), (.int (.ofNat 0)), (.int (.ofNat 3)), (.int (.ofNat 2))]), (.lst [(.int (.ofNat 6)), (.int (.ofNat 7)), (.int (.ofNat 5)), (.int (.ofNat 4)), (.int (.ofNat 3)), (.int (.ofNat 2)), (.int (.ofNat 0)), (.int (.ofNat 1)), (.int (.ofNat 10)), (.int (.ofNat 11)), (.int (.ofNat 8)), (.int (.ofNat 9))]), (.lst [(.int (.ofNat 7)), (.int (.ofNat 6)), (.int (.ofNat 8)), (.int (.ofNat 9)), (.int (.ofNat 11)), (.int (.ofNat 10)), (.int (.ofNat 1)), (.int (.ofNat 0)), (.int (.ofNat 2)), (.int (.ofNat 3)), (.int (.ofNat 5)), (.int (.ofNat 4))]), (.lst [(.int (.ofNat 8)), (.int (.ofNat 9)), (.int (.ofNat 7)), (.int (.ofNat 6)), (.int (.ofNat 5)), (.int (.ofNat 4)), (.int (.ofNat 3)), (.int (.ofNat 2)), (.int (.ofNat 0)), (.int (.ofNat 1)), (.int (.ofNat 11)), (.int (.ofNat 10))]), (.lst [(.int (.ofNat 9)), (.int (.ofNat 8)), (.int (.ofNat 11)), (.int (.ofNat 10)), (.int (.ofNat 1)), (.int (.ofNat 0)), (.int (.ofNat 2)), (.int (.ofNat 3)), (.int (.ofNat 4)), (.int (.ofNat 5)), (.int (.ofNat 7)), (.int (.ofNat 6))]), (.lst [(.int (.ofNat 10)), (.int (.ofNat 11)), (.int (.ofNat 1)), (.int (.ofNat 0)), (.int (.ofNat 2)), (.int (.ofNat 3)), (.int (.ofNat 4)), (.int (.ofNat 5)), (.int (.ofNat 6)), (.int (.ofNat 7)), (.int (.ofNat 9)), (.int (.ofNat 8))]), (.lst [(.int (.ofNat 11)), (.int (.ofNat 10)), (.int (.ofNat 9)), (.int (.ofNat 8)), (.int (.ofNat 7)), (.int (.ofNat 6)), (.int (.ofNat 5)), (.int (.ofNat 4)), (.int (.ofNat 3)), (.int (.ofNat 2)), (.int (.ofNat 1)), (.int (.ofNat 0))])])
def P_d6 : List D := [(.tup [(.int (.ofNat 0))]), (.tup [(.int (.ofNat 0)), (.int (.ofNat 1))]), (.tup [(.int (.ofNat 0)), (.int (.ofNat 2))]), (.tup [(.int (.ofNat 0)), (.int (.ofNat 3)), (.int (.ofNat 5)), (.int (.ofNat 7)), (.int (.ofNat 9)), (.int (.ofNat 10))]), (.tup [(.int (.ofNat 0)), (.int (.ofNat 4))]), (.tup [(.int (.ofNat 0)), (.int (.ofNat 5)), (.int (.ofNat 9))]), (.tup [(.int (.ofNat 0)), (.int (.ofNat 6))]), (.tup [(.int (.ofNat 0)), (.int (.ofNat 7))]), (.tup [(.int (.ofNat 0)), (.int (.ofNat 8))]), (.tup [(.int (.ofNat 0)), (.int (.ofNat 11))]), (.tup [(.int (.ofNat 0)), (.int (.ofNat 1)), (.int (.ofNat 2)), (.int (.ofNat 3)), (.int (.ofNat 4)), (.int (.ofNat 5)), (.int (.ofNat 6)), (.int (.ofNat 7)), (.int (.ofNat 8)), (.int (.ofNat 9)), (.int (.ofNat 10)), (.int (.ofNat 11))]), (.tup [(.int (.ofNat 0)), (.int (.ofNat 1)), (.int (.ofNat 4)), (.int (.ofNat 5)), (.int (.ofNat 8)), (.int (.ofNat 9))]), (.tup [(.int (.ofNat 0)), (.int (.ofNat 1)), (.int (.ofNat 6)), (.int (.ofNat 7))]), (.tup [(.int (.ofNat 0)), (.int (.ofNat 2)), (.int (.ofNat 5)), (.int (.ofNat 6)), (.int (.ofNat 9)), (.int (.ofNat 11))]), (.tup [(.int (.ofNat 0)), (.int (.ofNat 2)), (.int (.ofNat 7)), (.int (.ofNat 8))]), (.tup [(.int (.ofNat 0)), (.int (.ofNat 4)), (.int (.ofNat 7)), (.int (.ofNat 11))])]
theorem mv_ok_d6 : fGet ready (.str (Str.ofString "d6")) = some (some mv_d6) := by
  have h : odb ((fGet ready (.str (Str.ofString "d6"))).bind id) (fun q => eqb q mv_d6) = true := by decide +kernel
  obtain ⟨q, e, h⟩ := odb_ok h
  obtain ⟨o, e1, e2⟩ := Option.bind_eq_some_iff.mp e
  cases e2
  rw [e1, eqb_ok h]
theorem g_d6 : r_law_group [mv_d6] = some G_d6 := oeq_ok (by decide +kernel)
theorem r_d6 : mr2 (.unk :: st0 G_d6) = some (.nx (.unk :: st1 G_d6 T_d6 b_d6 (.int (.ofNat 12)))) := nxeq_ok (by decide +kernel)
theorem z_d6 : fGetI G_d6 (.str "size") = some (.int (.ofNat 12)) := oeq_ok (by decide +kernel)
theorem d1_d6 : r_law_parts_of_size [G_d6, .int (.ofNat 1)] = some (.lst [(.tup [(.int (.ofNat 0))])]) := oeq_ok (by decide +kernel)
theorem d3_d6 : r_law_parts_of_size [G_d6, .int (.ofNat 3)] = some (.lst [(.tup [(.int (.ofNat 0)), (.int (.ofNat 5)), (.int (.ofNat 9))])]) := oeq_ok (by decide +kernel)
theorem d4_d6 : r_law_parts_of_size [G_d6, .int (.ofNat 4)] = some (.lst [(.tup [(.int (.ofNat 0)), (.int (.ofNat 1)), (.int (.ofNat 6)), (.int (.ofNat 7))]), (.tup [(.int (.ofNat 0)), (.int (.ofNat 2)), (.int (.ofNat 7)), (.int (.ofNat 8))]), (.tup [(.int (.ofNat 0)), (.int (.ofNat 4)), (.int (.ofNat 7)), (.int (.ofNat 11))])]) := oeq_ok (by decide +kernel)
theorem p2_d6 : r_law_prime_right [G_d6, T_d6, .int 2] = some (.bl true) := chkPr_ok d4_d6 (by decide +kernel)
theorem p3_d6 : r_law_prime_right [G_d6, T_d6, .int 3] = some (.bl true) := chkPr_ok d3_d6 (by decide +kernel)
theorem p5_d6 : r_law_prime_right [G_d6, T_d6, .int 5] = some (.bl true) := chkPr_ok d1_d6 (by decide +kernel)
theorem p7_d6 : r_law_prime_right [G_d6, T_d6, .int 7] = some (.bl true) := chkPr_ok d1_d6 (by decide +kernel)
theorem p11_d6 : r_law_prime_right [G_d6, T_d6, .int 11] = some (.bl true) := chkPr_ok d1_d6 (by decide +kernel)
theorem p13_d6 : r_law_prime_right [G_d6, T_d6, .int 13] = some (.bl true) := chkPr_ok d1_d6 (by decide +kernel)
theorem p17_d6 : r_law_prime_right [G_d6, T_d6, .int 17] = some (.bl true) := chkPr_ok d1_d6 (by decide +kernel)
theorem p19_d6 : r_law_prime_right [G_d6, T_d6, .int 19] = some (.bl true) := chkPr_ok d1_d6 (by decide +kernel)
theorem p23_d6 : r_law_prime_right [G_d6, T_d6, .int 23] = some (.bl true) := chkPr_ok d1_d6 (by decide +kernel)
theorem p29_d6 : r_law_prime_right [G_d6, T_d6, .int 29] = some (.bl true) := chkPr_ok d1_d6 (by decide +kernel)
theorem p31_d6 : r_law_prime_right [G_d6, T_d6, .int 31] = some (.bl true) := chkPr_ok d1_d6 (by decide +kernel)
theorem m_d6 : (menu 12).all (chkMs G_d6 P_d6) = true := by decide +kernel
theorem bd_d6 : P_d6.all (chkBd (st1 G_d6 T_d6 b_d6 (.int (.ofNat 12)))) = true := by decide +kernel
theorem en_d6 : chkEn (st1 G_d6 T_d6 b_d6 (.int (.ofNat 12))) = true := by decide +kernel
theorem good_d6 : Good G_d6 T_d6 b_d6 (.ofNat 12) where
  r2 := r_d6
  n0 := by decide
  n1 := by decide
  sz := z_d6
  pr := fun p hp => by
    unfold primes at hp
    simp only [List.mem_cons, List.not_mem_nil, or_false] at hp
    rcases hp with rfl | rfl | rfl | rfl | rfl | rfl | rfl | rfl | rfl | rfl | rfl
    · exact p2_d6
    · exact p3_d6
    · exact p5_d6
    · exact p7_d6
    · exact p11_d6
    · exact p13_d6
    · exact p17_d6
    · exact p19_d6
    · exact p23_d6
    · exact p29_d6
    · exact p31_d6
  pt := pt_ok (k := 12) m_d6 bd_d6
  en := chkEn_ok en_d6
end K2

namespace K2
open PySem PySem.Spec L2 DL DN
def mv_q8 : D := (.tup [(.tup [(.int (.ofNat 1)), (.int (.ofNat 4)), (.int (.ofNat 3)), (.int (.ofNat 6)), (.int (.ofNat 5)), (.int (.ofNat 0)), (.int (.ofNat 7)), (.int (.ofNat 2))]), (.tup [(.int (.ofNat 2)), (.int (.ofNat 7)), (.int (.ofNat 4)), (.int (.ofNat 1)), (.int (.ofNat 6)), (.int (.ofNat 3)), (.int (.ofNat 0)), (.int (.ofNat 5))])])
def G_q8 : D := (.dct false [(.str (Str.ofString "moves")), (.str (Str.ofString "every")), (.str (Str.ofString "size")), (.str (Str.ofString "table")), (.str (Str.ofString "back"))] [(.tup [(.tup [(.int (.ofNat 1)), (.int (.ofNat 4)), (.int (.ofNat 3)), (.int (.ofNat 6)), (.int (.ofNat 5)), (.int (.ofNat 0)), (.int (.ofNat 7)), (.int (.ofNat 2))]), (.tup [(.int (.ofNat 2)), (.int (.ofNat 7)), (.int (.ofNat 4)), (.int (.ofNat 1)), (.int (.ofNat 6)), (.int (.ofNat 3)), (.int (.ofNat 0)), (.int (.ofNat 5))])]), (.lst [(.tup [(.int (.ofNat 0)), (.int (.ofNat 1)), (.int (.ofNat 2)), (.int (.ofNat 3)), (.int (.ofNat 4)), (.int (.ofNat 5)), (.int (.ofNat 6)), (.int (.ofNat 7))]), (.tup [(.int (.ofNat 1)), (.int (.ofNat 4)), (.int (.ofNat 3)), (.int (.ofNat 6)), (.int (.ofNat 5)), (.int (.ofNat 0)), (.int (.ofNat 7)), (.int (.ofNat 2))]), (.tup [(.int (.ofNat 2)), (.int (.ofNat 7)), (.int (.ofNat 4)), (.int (.ofNat 1)), (.int (.ofNat 6)), (.int (.ofNat 3)), (.int (.ofNat 0)), (.int (.ofNat 5))]), (.tup [(.int (.ofNat 3)), (.int (.ofNat 2)), (.int (.ofNat 5)), (.int (.ofNat 4)), (.int (.ofNat 7)), (.int (.ofNat 6)), (.int (.ofNat 1)), (.int (.ofNat 0))]), (.tup [(.int (.ofNat 4)), (.int (.ofNat 5)), (.int (.ofNat 6)), (.int (.ofNat 7)), (.int (.ofNat 0)), (.int (.ofNat 1)), (.int (.ofNat 2)), (.int (.ofNat 3))]), (.tup [(.int (.ofNat 5)), (.int (.ofNat 0)), (.int (.ofNat 7)), (.int (.ofNat 2)), (.int (.ofNat 1)), (.int (.ofNat 4)), (.int (.ofNat 3)), (.int (.ofNat 6))]), (.tup [(.int (.ofNat 6)), (.int (.ofNat 3)), (.int (.ofNat 0)), (.int (.ofNat 5)), (.int (.ofNat 2)), (.int (.ofNat 7)), (.int (.ofNat 4)), (.int (.ofNat 1))]), (.tup [(.int (.ofNat 7)), (.int (.ofNat 6)), (.int (.ofNat 1)), (.int (.ofNat 0)), (.int (.ofNat 3)), (.int (.ofNat 2)), (.int (.ofNat 5)), (.int (.ofNat 4))])]), (.int (.ofNat 8)), (.lst [(.lst [(.int (.ofNat 0)), (.int (.ofNat 1)), (.int (.ofNat 2)), (.int (.ofNat 3)), (.int (.ofNat 4)), (.int (.ofNat 5)), (.int (.ofNat 6)), (.int (.ofNat 7))]), (.lst [(.int (.ofNat 1)), (.int (.ofNat 4)), (.int (.ofNat 3)), (.int (.ofNat 6)), (.int (.ofNat 5)), (.int (.ofNat 0)), (.int (.ofNat 7)), (.int (.ofNat 2))]), (.lst [(.int (.ofNat 2)), (.int (.ofNat 7)), (.int (.ofNat 4)), (.int (.ofNat 1)), (.int (.ofNat 6)), (.int (.ofNat 3)), (.int (.ofNat 0)), (.int (.ofNat 5))]), (.lst [(.int (.ofNat 3)), (.int (.ofNat 2)), (.int (.ofNat 5)), (.int (.ofNat 4)), (.int (.ofNat 7)), (.int (.ofNat 6)), (.int (.ofNat 1)), (.int (.ofNat 0))]), (.lst [(.int (.ofNat 4)), (.int (.ofNat 5)), (.int (.ofNat 6)), (.int (.ofNat 7)), (.int (.ofNat 0)), (.int (.ofNat 1)), (.int (.ofNat 2)), (.int (.ofNat 3))]), (.lst [(.int (.ofNat 5)), (.int (.ofNat 0)), (.int (.ofNat 7)), (.int (.ofNat 2)), (.int (.ofNat 1)), (.int (.ofNat 4)), (.int (.ofNat 3)), (.int (.ofNat 6))]), (.lst [(.int (.ofNat 6)), (.int (.ofNat 3)), (.int (.ofNat 0)), (.int (.ofNat 5)), (.int (.ofNat 2)), (.int (.ofNat 7)), (.int (.ofNat 4)), (.int (.ofNat 1))]), (.lst [(.int (.ofNat 7)), (.int (.ofNat 6)), (.int (.ofNat 1)), (.int (.ofNat 0)), (.int (.ofNat 3)), (.int (.ofNat 2)), (.int (.ofNat 5)), (.int (.ofNat 4))])]), (.lst [(.int (.ofNat 0)), (.int (.ofNat 5)), (.int (.ofNat 6)), (.int (.ofNat 7)), (.int (.ofNat 4)), (.int (.ofNat 1)), (.int (.ofNat 2)), (.int (.ofNat 3))])])
def T_q8 : D := (.ins 236 [Str.ofString "_moves", Str.ofString "_members", Str.ofString "_products", Str.ofString "_inverses"] [(.tup [(.tup [(.int (.ofNat 0)), (.int (.ofNat 1)), (.int (.ofNat 2)), (.int (.ofNat 3)), (.int (.ofNat 4)), (.int (.ofNat 5)), (.int (.ofNat 6)), (.int (.ofNat 7))]), (.tup [(.int (.ofNat 1)), (.int (.ofNat 4)), (.int (.ofNat 3)), (.int (.ofNat 6)), (.int (.ofNat 5)), (.int (.ofNat 0)), (.int (.ofNat 7)), (.int (.ofNat 2))]), (.tup [(.int (.ofNat 2)), (.int (.ofNat 7)), (.int (.ofNat 4)), (.int (.ofNat 1)), (.int (.ofNat 6)), (.int (.ofNat 3)), (.int (.ofNat 0)), (.int (.ofNat 5))]), (.tup [(.int (.ofNat 3)), (.int (.ofNat 2)), (.int (.ofNat 5)), (.int (.ofNat 4)), (.int (.ofNat 7)), (.int (.ofNat 6)), (.int (.ofNat 1)), (.int (.ofNat 0))]), (.tup [(.int (.ofNat 4)), (.int (.ofNat 5)), (.int (.ofNat 6)), (.int (.ofNat 7)), (.int (.ofNat 0)), (.int (.ofNat 1)), (.int (.ofNat 2)), (.int (.ofNat 3))]), (.tup [(.int (.ofNat 5)), (.int (.ofNat 0)), (.int (.ofNat 7)), (.int (.ofNat 2)), (.int (.ofNat 1)), (.int (.ofNat 4)), (.int (.ofNat 3)), (.int (.ofNat 6))]), (.tup [(.int (.ofNat 6)), (.int (.ofNat 3)), (.int (.ofNat 0)), (.int (.ofNat 5)), (.int (.ofNat 2)), (.int (.ofNat 7)), (.int (.ofNat 4)), (.int (.ofNat 1))]), (.tup [(.int (.ofNat 7)), (.int (.ofNat 6)), (.int (.ofNat 1)), (.int (.ofNat 0)), (.int (.ofNat 3)), (.int (.ofNat 2)), (.int (.ofNat 5)), (.int (.ofNat 4))])]), (.tup [(.int (.ofNat 0)), (.int (.ofNat 1)), (.int (.ofNat 2)), (.int (.ofNat 3)), (.int (.ofNat 4)), (.int (.ofNat 5)), (.int (.ofNat 6)), (.int (.ofNat 7))]), (.tup [(.ftup [(.int (.ofNat 0)), (.int (.ofNat 1)), (.int (.ofNat 2)), (.int (.ofNat 3)), (.int (.ofNat 4)), (.int (.ofNat 5)), (.int (.ofNat 6)), (.int (.ofNat 7))]), (.ftup [(.int (.ofNat 1)), (.int (.ofNat 4)), (.int (.ofNat 3)), (.int (.ofNat 6)), (.int (.ofNat 5)), (.int (.ofNat 0)), (.int (.ofNat 7)), (.int (.ofNat 2))]), (.ftup [(.int (.ofNat 2)), (.int (.ofNat 7)), (.int (.ofNat 4)), (.int (.ofNat 1)), (.int (.ofNat 6)), (.int (.ofNat 3)), (.int (.ofNat 0)), (.int (.ofNat 5))]), (.ftup [(.int (.ofNat 3)), (.int (.ofNat 2)), (.int (.ofNat 5)), (.int (.ofNat 4)), (.int (.ofNat 7)), (.int (.ofNat 6)), (.int (.ofNat 1)), (.int (.ofNat 0))]), (.ftup [(.int (.ofNat 4)), (.int (.ofNat 5)), (.int (.ofNat 6)), (.int (.ofNat 7)), (.int (.ofNat 0)), (.int (.ofNat 1)), (.int (.ofNat 2)), (.int (.ofNat 3))]), (.ftup [(.int (.ofNat 5)), (.int (.ofNat 0)), (.int (.ofNat 7)), (.int (.ofNat 2)), (.int (.ofNat 1)), (.int (.ofNat 4)), (.int (.ofNat 3)), (.int (.ofNat 6))]), (.ftup [(.int (.ofNat 6)), (.int (.ofNat 3)), (.int (.ofNat 0)), (.int (.ofNat 5)), (.int (.ofNat 2)), (.int (.ofNat 7)), (.int (.ofNat 4)), (.int (.ofNat 1))]), (.ftup [(.int (.ofNat 7)), (.int (.ofNat 6)), (.int (.ofNat 1)), (.int (.ofNat 0)), (.int (.ofNat 3)), (.int (.ofNat 2)), (.int (.ofNat 5)), (.int (.ofNat 4))])]), (.tup [(.int (.ofNat 0)), (.int (.ofNat 5)), (.int (.ofNat 6)), (.int (.ofNat 7)), (.int (.ofNat 4)), (.int (.ofNat 1)), (.int (.ofNat 2)), (.int (.ofNat 3))])])
def b_q8 : D := (.lst [(.lst [(.int (.ofNat 0)), (.int (.ofNat 1)), (.int (.ofNat 2)), (.int (.ofNat 3)), (.int (.ofNat 4)), (.int (.ofNat 5)), (.int (.ofNat 6)), (.int (.ofNat 7))]), (.lst [(.int (.ofNat 1)), (.int (.ofNat 4)), (.int (.ofNat 3)), (.int (.ofNat 6)), (.int (.ofNat 5)), (.int (.ofNat 0)), (.int (.ofNat 7)), (.int (.ofNat 2))]), (.lst [(.int (.ofNat 2)), (.int (.ofNat 7)), (.int (.ofNat 4)), (.int (.ofNat 1)), (.int (.ofNat 6)), (.int (.ofNat 3)), (.int (.ofNat 0)), (.int (.ofNat 5))]), (.lst [(.int (.ofNat 3)), (.int (.ofNat 2)), (.int (.ofNat 5)), (.int (.ofNat 4)), (.int (.ofNat 7)), (.int (.ofNat 6)), (.int (.ofNat 1)), (.int (.ofNat 0))]), (.lst [(.int (.ofNat 4)), (.int (.ofNat 5)), (.int (.ofNat 6)), (.int (.ofNat 7)), (.int (.ofNat 0)), (.int (.ofNat 1)), (.int (.ofNat 2)), (.int (.ofNat 3))]), (.lst [(.int (.ofNat 5)), (.int (.ofNat 0)), (.int (.ofNat 7)), (.int (.ofNat 2)), (.int (.ofNat 1)), (.int (.ofNat 4)), (.int (.ofNat 3)), (.int (.ofNat 6))]), (.lst [(.int (.ofNat 6)), (.int (.ofNat 3)), (.int (.ofNat 0)), (.int (.ofNat 5)), (.int (.ofNat 2)), (.int (.ofNat 7)), (.int (.ofNat 4)), (.int (.ofNat 1))]), (.lst [(.int (.ofNat 7)), (.int (.ofNat 6)), (.int (.ofNat 1)), (.int (.ofNat 0)), (.int (.ofNat 3)), (.int (.ofNat 2)), (.int (.ofNat 5)), (.int (.ofNat 4))])])
def P_q8 : List D := [(.tup [(.int (.ofNat 0))]), (.tup [(.int (.ofNat 0)), (.int (.ofNat 1)), (.int (.ofNat 4)), (.int (.ofNat 5))]), (.tup [(.int (.ofNat 0)), (.int (.ofNat 2)), (.int (.ofNat 4)), (.int (.ofNat 6))]), (.tup [(.int (.ofNat 0)), (.int (.ofNat 3)), (.int (.ofNat 4)), (.int (.ofNat 7))]), (.tup [(.int (.ofNat 0)), (.int (.ofNat 4))]), (.tup [(.int (.ofNat 0)), (.int (.ofNat 1)), (.int (.ofNat 2)), (.int (.ofNat 3)), (.int (.ofNat 4)), (.int (.ofNat 5)), (.int (.ofNat 6)), (.int (.ofNat 7))])]
theorem mv_ok_q8 : fGet ready (.str (Str.ofString "q8")) = some (some mv_q8) := by
  have h : odb ((fGet ready (.str (Str.ofString "q8"))).bind id) (fun q => eqb q mv_q8) = true := by decide +kernel
  obtain ⟨q, e, h⟩ := odb_ok h
  obtain ⟨o, e1, e2⟩ := Option.bind_eq_some_iff.mp e
  cases e2
  rw [e1, eqb_ok h]
theorem g_q8 : r_law_group [mv_q8] = some G_q8 := oeq_ok (by decide +kernel)
theorem r_q8 : mr2 (.unk :: st0 G_q8) = some (.nx (.unk :: st1 G_q8 T_q8 b_q8 (.int (.ofNat 8)))) := nxeq_ok (by decide +kernel)
theorem z_q8 : fGetI G_q8 (.str "size") = some (.int (.ofNat 8)) := oeq_ok (by decide +kernel)
theorem d1_q8 : r_law_parts_of_size [G_q8, .int (.ofNat 1)] = some (.lst [(.tup [(.int (.ofNat 0))])]) := oeq_ok (by decide +kernel)
theorem d8_q8 : r_law_parts_of_size [G_q8, .int (.ofNat 8)] = some (.lst [(.tup [(.int (.ofNat 0)), (.int (.ofNat 1)), (.int (.ofNat 2)), (.int (.ofNat 3)), (.int (.ofNat 4)), (.int (.ofNat 5)), (.int (.ofNat 6)), (.int (.ofNat 7))])]) := oeq_ok (by decide +kernel)
theorem p2_q8 : r_law_prime_right [G_q8, T_q8, .int 2] = some (.bl true) := chkPr_ok d8_q8 (by decide +kernel)
theorem p3_q8 : r_law_prime_right [G_q8, T_q8, .int 3] = some (.bl true) := chkPr_ok d1_q8 (by decide +kernel)
theorem p5_q8 : r_law_prime_right [G_q8, T_q8, .int 5] = some (.bl true) := chkPr_ok d1_q8 (by decide +kernel)
theorem p7_q8 : r_law_prime_right [G_q8, T_q8, .int 7] = some (.bl true) := chkPr_ok d1_q8 (by decide +kernel)
theorem p11_q8 : r_law_prime_right [G_q8, T_q8, .int 11] = some (.bl true) := chkPr_ok d1_q8 (by decide +kernel)
theorem p13_q8 : r_law_prime_right [G_q8, T_q8, .int 13] = some (.bl true) := chkPr_ok d1_q8 (by decide +kernel)
theorem p17_q8 : r_law_prime_right [G_q8, T_q8, .int 17] = some (.bl true) := chkPr_ok d1_q8 (by decide +kernel)
theorem p19_q8 : r_law_prime_right [G_q8, T_q8, .int 19] = some (.bl true) := chkPr_ok d1_q8 (by decide +kernel)
theorem p23_q8 : r_law_prime_right [G_q8, T_q8, .int 23] = some (.bl true) := chkPr_ok d1_q8 (by decide +kernel)
theorem p29_q8 : r_law_prime_right [G_q8, T_q8, .int 29] = some (.bl true) := chkPr_ok d1_q8 (by decide +kernel)
theorem p31_q8 : r_law_prime_right [G_q8, T_q8, .int 31] = some (.bl true) := chkPr_ok d1_q8 (by decide +kernel)
theorem m_q8 : (menu 8).all (chkMs G_q8 P_q8) = true := by decide +kernel
theorem bd_q8 : P_q8.all (chkBd (st1 G_q8 T_q8 b_q8 (.int (.ofNat 8)))) = true := by decide +kernel
theorem en_q8 : chkEn (st1 G_q8 T_q8 b_q8 (.int (.ofNat 8))) = true := by decide +kernel
theorem good_q8 : Good G_q8 T_q8 b_q8 (.ofNat 8) where
  r2 := r_q8
  n0 := by decide
  n1 := by decide
  sz := z_q8
  pr := fun p hp => by
    unfold primes at hp
    simp only [List.mem_cons, List.not_mem_nil, or_false] at hp
    rcases hp with rfl | rfl | rfl | rfl | rfl | rfl | rfl | rfl | rfl | rfl | rfl
    · exact p2_q8
    · exact p3_q8
    · exact p5_q8
    · exact p7_q8
    · exact p11_q8
    · exact p13_q8
    · exact p17_q8
    · exact p19_q8
    · exact p23_q8
    · exact p29_q8
    · exact p31_q8
  pt := pt_ok (k := 8) m_q8 bd_q8
  en := chkEn_ok en_q8
end K2

namespace K2
open PySem PySem.Spec L2 DL DN
def mv_s3 : D := (.tup [(.tup [(.int (.ofNat 1)), (.int (.ofNat 0)), (.int (.ofNat 2))]), (.tup [(.int (.ofNat 1)), (.int (.ofNat 2)), (.int (.ofNat 0))])])
def G_s3 : D := (.dct false [(.str (Str.ofString "moves")), (.str (Str.ofString "every")), (.str (Str.ofString "size")), (.str (Str.ofString "table")), (.str (Str.ofString "back"))] [(.tup [(.tup [(.int (.ofNat 1)), (.int (.ofNat 0)), (.int (.ofNat 2))]), (.tup [(.int (.ofNat 1)), (.int (.ofNat 2)), (.int (.ofNat 0))])]), (.lst [(.tup [(.int (.ofNat 0)), (.int (.ofNat 1)), (.int (.ofNat 2))]), (.tup [(.int (.ofNat 0)), (.int (.ofNat 2)), (.int (.ofNat 1))]), (.tup [(.int (.ofNat 1)), (.int (.ofNat 0)), (.int (.ofNat 2))]), (.tup [(.int (.ofNat 1)), (.int (.ofNat 2)), (.int (.ofNat 0))]), (.tup [(.int (.ofNat 2)), (.int (.ofNat 0)), (.int (.ofNat 1))]), (.tup [(.int (.ofNat 2)), (.int (.ofNat 1)), (.int (.ofNat 0))])]), (.int (.ofNat 6)), (.lst [(.lst [(.int (.ofNat 0)), (.int (.ofNat 1)), (.int (.ofNat 2)), (.int (.ofNat 3)), (.int (.ofNat 4)), (.int (.ofNat 5))]), (.lst [(.int (.ofNat 1)), (.int (.ofNat 0)), (.int (.ofNat 4)), (.int (.ofNat 5)), (.int (.ofNat 2)), (.int (.ofNat 3))]), (.lst [(.int (.ofNat 2)), (.int (.ofNat 3)), (.int (.ofNat 0)), (.int (.ofNat 1)), (.int (.ofNat 5)), (.int (.ofNat 4))]), (.lst [(.int (.ofNat 3)), (.int (.ofNat 2)), (.int (.ofNat 5)), (.int (.ofNat 4)), (.int (.ofNat 0)), (.int (.ofNat 1))]), (.lst [(.int (.ofNat 4)), (.int (.ofNat 5)), (.int (.ofNat 1)), (.int (.ofNat 0)), (.int (.ofNat 3)), (.int (.ofNat 2))]), (.lst [(.int (.ofNat 5)), (.int (.ofNat 4)), (.int (.ofNat 3)), (.int (.ofNat 2)), (.int (.ofNat 1)), (.int (.ofNat 0))])]), (.lst [(.int (.ofNat 0)), (.int (.ofNat 1)), (.int (.ofNat 2)), (.int (.ofNat 4)), (.int (.ofNat 3)), (.int (.ofNat 5))])])
def T_s3 : D := (.ins 236 [Str.ofString "_moves", Str.ofString "_members", Str.ofString "_products", Str.ofString "_inverses"] [(.tup [(.tup [(.int (.ofNat 0)), (.int (.ofNat 1)), (.int (.ofNat 2))]), (.tup [(.int (.ofNat 0)), (.int (.ofNat 2)), (.int (.ofNat 1))]), (.tup [(.int (.ofNat 1)), (.int (.ofNat 0)), (.int (.ofNat 2))]), (.tup [(.int (.ofNat 1)), (.int (.ofNat 2)), (.int (.ofNat 0))]), (.tup [(.int (.ofNat 2)), (.int (.ofNat 0)), (.int (.ofNat 1))]), (.tup [(.int (.ofNat 2)), (.int (.ofNat 1)), (.int (.ofNat 0))])]), (.tup [(.int (.ofNat 0)), (.int (.ofNat 1)), (.int (.ofNat 2)), (.int (.ofNat 3)), (.int (.ofNat 4)), (.int (.ofNat 5))]), (.tup [(.ftup [(.int (.ofNat 0)), (.int (.ofNat 1)), (.int (.ofNat 2)), (.int (.ofNat 3)), (.int (.ofNat 4)), (.int (.ofNat 5))]), (.ftup [(.int (.ofNat 1)), (.int (.ofNat 0)), (.int (.ofNat 4)), (.int (.ofNat 5)), (.int (.ofNat 2)), (.int (.ofNat 3))]), (.ftup [(.int (.ofNat 2)), (.int (.ofNat 3)), (.int (.ofNat 0)), (.int (.ofNat 1)), (.int (.ofNat 5)), (.int (.ofNat 4))]), (.ftup [(.int (.ofNat 3)), (.int (.ofNat 2)), (.int (.ofNat 5)), (.int (.ofNat 4)), (.int (.ofNat 0)), (.int (.ofNat 1))]), (.ftup [(.int (.ofNat 4)), (.int (.ofNat 5)), (.int (.ofNat 1)), (.int (.ofNat 0)), (.int (.ofNat 3)), (.int (.ofNat 2))]), (.ftup [(.int (.ofNat 5)), (.int (.ofNat 4)), (.int (.ofNat 3)), (.int (.ofNat 2)), (.int (.ofNat 1)), (.int (.ofNat 0))])]), (.tup [(.int (.ofNat 0)), (.int (.ofNat 1)), (.int (.ofNat 2)), (.int (.ofNat 4)), (.int (.ofNat 3)), (.int (.ofNat 5))])])
def b_s3 : D := (.lst [(.lst [(.int (.ofNat 0)), (.int (.ofNat 1)), (.int (.ofNat 2)), (.int (.ofNat 3)), (.int (.ofNat 4)), (.int (.ofNat 5))]), (.lst [(.int (.ofNat 1)), (.int (.ofNat 0)), (.int (.ofNat 4)), (.int (.ofNat 5)), (.int (.ofNat 2)), (.int (.ofNat 3))]), (.lst [(.int (.ofNat 2)), (.int (.ofNat 3)), (.int (.ofNat 0)), (.int (.ofNat 1)), (.int (.ofNat 5)), (.int (.ofNat 4))]), (.lst [(.int (.ofNat 3)), (.int (.ofNat 2)), (.int (.ofNat 5)), (.int (.ofNat 4)), (.int (.ofNat 0)), (.int (.ofNat 1))]), (.lst [(.int (.ofNat 4)), (.int (.ofNat 5)), (.int (.ofNat 1)), (.int (.ofNat 0)), (.int (.ofNat 3)), (.int (.ofNat 2))]), (.lst [(.int (.ofNat 5)), (.int (.ofNat 4)), (.int (.ofNat 3)), (.int (.ofNat 2)), (.int (.ofNat 1)), (.int (.ofNat 0))])])
def P_s3 : List D := [(.tup [(.int (.ofNat 0))]), (.tup [(.int (.ofNat 0)), (.int (.ofNat 1))]), (.tup [(.int (.ofNat 0)), (.int (.ofNat 2))]), (.tup [(.int (.ofNat 0)), (.int (.ofNat 3)), (.int (.ofNat 4))]), (.tup [(.int (.ofNat 0)), (.int (.ofNat 5))]), (.tup [(.int (.ofNat 0)), (.int (.ofNat 1)), (.int (.ofNat 2)), (.int (.ofNat 3)), (.int (.ofNat 4)), (.int (.ofNat 5))])]
theorem mv_ok_s3 : fGet ready (.str (Str.ofString "s3")) = some (some mv_s3) := by
  have h : odb ((fGet ready (.str (Str.ofString "s3"))).bind id) (fun q => eqb q mv_s3) = true := by decide +kernel
  obtain ⟨q, e, h⟩ := odb_ok h
  obtain ⟨o, e1, e2⟩ := Option.bind_eq_some_iff.mp e
  cases e2
  rw [e1, eqb_ok h]
theorem g_s3 : r_law_group [mv_s3] = some G_s3 := oeq_ok (by decide +kernel)
theorem r_s3 : mr2 (.unk :: st0 G_s3) = some (.nx (.unk :: st1 G_s3 T_s3 b_s3 (.int (.ofNat 6)))) := nxeq_ok (by decide +kernel)
theorem z_s3 : fGetI G_s3 (.str "size") = some (.int (.ofNat 6)) := oeq_ok (by decide +kernel)
theorem d1_s3 : r_law_parts_of_size [G_s3, .int (.ofNat 1)] = some (.lst [(.tup [(.int (.ofNat 0))])]) := oeq_ok (by decide +kernel)
theorem d2_s3 : r_law_parts_of_size [G_s3, .int (.ofNat 2)] = some (.lst [(.tup [(.int (.ofNat 0)), (.int (.ofNat 1))]), (.tup [(.int (.ofNat 0)), (.int (.ofNat 2))]), (.tup [(.int (.ofNat 0)), (.int (.ofNat 5))])]) := oeq_ok (by decide +kernel)
theorem d3_s3 : r_law_parts_of_size [G_s3, .int (.ofNat 3)] = some (.lst [(.tup [(.int (.ofNat 0)), (.int (.ofNat 3)), (.int (.ofNat 4))])]) := oeq_ok (by decide +kernel)
theorem p2_s3 : r_law_prime_right [G_s3, T_s3, .int 2] = some (.bl true) := chkPr_ok d2_s3 (by decide +kernel)
theorem p3_s3 : r_law_prime_right [G_s3, T_s3, .int 3] = some (.bl true) := chkPr_ok d3_s3 (by decide +kernel)
theorem p5_s3 : r_law_prime_right [G_s3, T_s3, .int 5] = some (.bl true) := chkPr_ok d1_s3 (by decide +kernel)
theorem p7_s3 : r_law_prime_right [G_s3, T_s3, .int 7] = some (.bl true) := chkPr_ok d1_s3 (by decide +kernel)
theorem p11_s3 : r_law_prime_right [G_s3, T_s3, .int 11] = some (.bl true) := chkPr_ok d1_s3 (by decide +kernel)
theorem p13_s3 : r_law_prime_right [G_s3, T_s3, .int 13] = some (.bl true) := chkPr_ok d1_s3 (by decide +kernel)
theorem p17_s3 : r_law_prime_right [G_s3, T_s3, .int 17] = some (.bl true) := chkPr_ok d1_s3 (by decide +kernel)
theorem p19_s3 : r_law_prime_right [G_s3, T_s3, .int 19] = some (.bl true) := chkPr_ok d1_s3 (by decide +kernel)
theorem p23_s3 : r_law_prime_right [G_s3, T_s3, .int 23] = some (.bl true) := chkPr_ok d1_s3 (by decide +kernel)
theorem p29_s3 : r_law_prime_right [G_s3, T_s3, .int 29] = some (.bl true) := chkPr_ok d1_s3 (by decide +kernel)
theorem p31_s3 : r_law_prime_right [G_s3, T_s3, .int 31] = some (.bl true) := chkPr_ok d1_s3 (by decide +kernel)
theorem m_s3 : (menu 6).all (chkMs G_s3 P_s3) = true := by decide +kernel
theorem bd_s3 : P_s3.all (chkBd (st1 G_s3 T_s3 b_s3 (.int (.ofNat 6)))) = true := by decide +kernel
theorem en_s3 : chkEn (st1 G_s3 T_s3 b_s3 (.int (.ofNat 6))) = true := by decide +kernel
theorem good_s3 : Good G_s3 T_s3 b_s3 (.ofNat 6) where
  r2 := r_s3
  n0 := by decide
  n1 := by decide
  sz := z_s3
  pr := fun p hp => by
    unfold primes at hp
    simp only [List.mem_cons, List.not_mem_nil, or_false] at hp
    rcases hp with rfl | rfl | rfl | rfl | rfl | rfl | rfl | rfl | rfl | rfl | rfl
    · exact p2_s3
    · exact p3_s3
    · exact p5_s3
    · exact p7_s3
    · exact p11_s3
    · exact p13_s3
    · exact p17_s3
    · exact p19_s3
    · exact p23_s3
    · exact p29_s3
    · exact p31_s3
  pt := pt_ok (k := 6) m_s3 bd_s3
  en := chkEn_ok en_s3
end K2

namespace K2
open PySem PySem.Spec L2 DL DN
def mv_v4 : D := (.tup [(.tup [(.int (.ofNat 1)), (.int (.ofNat 0)), (.int (.ofNat 2)), (.int (.ofNat 3))]), (.tup [(.int (.ofNat 0)), (.int (.ofNat 1)), (.int (.ofNat 3)), (.int (.ofNat 2))])])
def G_v4 : D := (.dct false [(.str (Str.ofString "moves")), (.str (Str.ofString "every")), (.str (Str.ofString "size")), (.str (Str.ofString "table")), (.str (Str.ofString "back"))] [(.tup [(.tup [(.int (.ofNat 1)), (.int (.ofNat 0)), (.int (.ofNat 2)), (.int (.ofNat 3))]), (.tup [(.int (.ofNat 0)), (.int (.ofNat 1)), (.int (.ofNat 3)), (.int (.ofNat 2))])]), (.lst [(.tup [(.int (.ofNat 0)), (.int (.ofNat 1)), (.int (.ofNat 2)), (.int (.ofNat 3))]), (.tup [(.int (.ofNat 0)), (.int (.ofNat 1)), (.int (.ofNat 3)), (.int (.ofNat 2))]), (.tup [(.int (.ofNat 1)), (.int (.ofNat 0)), (.int (.ofNat 2)), (.int (.ofNat 3))]), (.tup [(.int (.ofNat 1)), (.int (.ofNat 0)), (.int (.ofNat 3)), (.int (.ofNat 2))])]), (.int (.ofNat 4)), (.lst [(.lst [(.int (.ofNat 0)), (.int (.ofNat 1)), (.int (.ofNat 2)), (.int (.ofNat 3))]), (.lst [(.int (.ofNat 1)), (.int (.ofNat 0)), (.int (.ofNat 3)), (.int (.ofNat 2))]), (.lst [(.int (.ofNat 2)), (.int (.ofNat 3)), (.int (.ofNat 0)), (.int (.ofNat 1))]), (.lst [(.int (.ofNat 3)), (.int (.ofNat 2)), (.int (.ofNat 1)), (.int (.ofNat 0))])]), (.lst [(.int (.ofNat 0)), (.int (.ofNat 1)), (.int (.ofNat 2)), (.int (.ofNat 3))])])
def T_v4 : D := (.ins 236 [Str.ofString "_moves", Str.ofString "_members", Str.ofString "_products", Str.ofString "_inverses"] [(.tup [(.tup [(.int (.ofNat 0)), (.int (.ofNat 1)), (.int (.ofNat 2)), (.int (.ofNat 3))]), (.tup [(.int (.ofNat 0)), (.int (.ofNat 1)), (.int (.ofNat 3)), (.int (.ofNat 2))]), (.tup [(.int (.ofNat 1)), (.int (.ofNat 0)), (.int (.ofNat 2)), (.int (.ofNat 3))]), (.tup [(.int (.ofNat 1)), (.int (.ofNat 0)), (.int (.ofNat 3)), (.int (.ofNat 2))])]), (.tup [(.int (.ofNat 0)), (.int (.ofNat 1)), (.int (.ofNat 2)), (.int (.ofNat 3))]), (.tup [(.ftup [(.int (.ofNat 0)), (.int (.ofNat 1)), (.int (.ofNat 2)), (.int (.ofNat 3))]), (.ftup [(.int (.ofNat 1)), (.int (.ofNat 0)), (.int (.ofNat 3)), (.int (.ofNat 2))]), (.ftup [(.int (.ofNat 2)), (.int (.ofNat 3)), (.int (.ofNat 0)), (.int (.ofNat 1))]), (.ftup [(.int (.ofNat 3)), (.int (.ofNat 2)), (.int (.ofNat 1)), (.int (.ofNat 0))])]), (.tup [(.int (.ofNat 0)), (.int (.ofNat 1)), (.int (.ofNat 2)), (.int (.ofNat 3))])])
def b_v4 : D := (.lst [(.lst [(.int (.ofNat 0)), (.int (.ofNat 1)), (.int (.ofNat 2)), (.int (.ofNat 3))]), (.lst [(.int (.ofNat 1)), (.int (.ofNat 0)), (.int (.ofNat 3)), (.int (.ofNat 2))]), (.lst [(.int (.ofNat 2)), (.int (.ofNat 3)), (.int (.ofNat 0)), (.int (.ofNat 1))]), (.lst [(.int (.ofNat 3)), (.int (.ofNat 2)), (.int (.ofNat 1)), (.int (.ofNat 0))])])
def P_v4 : List D := [(.tup [(.int (.ofNat 0))]), (.tup [(.int (.ofNat 0)), (.int (.ofNat 1))]), (.tup [(.int (.ofNat 0)), (.int (.ofNat 2))]), (.tup [(.int (.ofNat 0)), (.int (.ofNat 3))]), (.tup [(.int (.ofNat 0)), (.int (.ofNat 1)), (.int (.ofNat 2)), (.int (.ofNat 3))])]
theorem mv_ok_v4 : fGet ready (.str (Str.ofString "v4")) = some (some mv_v4) := by
  have h : odb ((fGet ready (.str (Str.ofString "v4"))).bind id) (fun q => eqb q mv_v4) = true := by decide +kernel
  obtain ⟨q, e, h⟩ := odb_ok h
  obtain ⟨o, e1, e2⟩ := Option.bind_eq_some_iff.mp e
  cases e2
  rw [e1, eqb_ok h]
theorem g_v4 : r_law_group [mv_v4] = some G_v4 := oeq_ok (by decide +kernel)
theorem r_v4 : mr2 (.unk :: st0 G_v4) = some (.nx (.unk :: st1 G_v4 T_v4 b_v4 (.int (.ofNat 4)))) := nxeq_ok (by decide +kernel)
theorem z_v4 : fGetI G_v4 (.str "size") = some (.int (.ofNat 4)) := oeq_ok (by decide +kernel)
theorem d1_v4 : r_law_parts_of_size [G_v4, .int (.ofNat 1)] = some (.lst [(.tup [(.int (.ofNat 0))])]) := oeq_ok (by decide +kernel)
theorem d4_v4 : r_law_parts_of_size [G_v4, .int (.ofNat 4)] = some (.lst [(.tup [(.int (.ofNat 0)), (.int (.ofNat 1)), (.int (.ofNat 2)), (.int (.ofNat 3))])]) := oeq_ok (by decide +kernel)
theorem p2_v4 : r_law_prime_right [G_v4, T_v4, .int 2] = some (.bl true) := chkPr_ok d4_v4 (by decide +kernel)
theorem p3_v4 : r_law_prime_right [G_v4, T_v4, .int 3] = some (.bl true) := chkPr_ok d1_v4 (by decide +kernel)
theorem p5_v4 : r_law_prime_right [G_v4, T_v4, .int 5] = some (.bl true) := chkPr_ok d1_v4 (by decide +kernel)
theorem p7_v4 : r_law_prime_right [G_v4, T_v4, .int 7] = some (.bl true) := chkPr_ok d1_v4 (by decide +kernel)
theorem p11_v4 : r_law_prime_right [G_v4, T_v4, .int 11] = some (.bl true) := chkPr_ok d1_v4 (by decide +kernel)
theorem p13_v4 : r_law_prime_right [G_v4, T_v4, .int 13] = some (.bl true) := chkPr_ok d1_v4 (by decide +kernel)
theorem p17_v4 : r_law_prime_right [G_v4, T_v4, .int 17] = some (.bl true) := chkPr_ok d1_v4 (by decide +kernel)
theorem p19_v4 : r_law_prime_right [G_v4, T_v4, .int 19] = some (.bl true) := chkPr_ok d1_v4 (by decide +kernel)
theorem p23_v4 : r_law_prime_right [G_v4, T_v4, .int 23] = some (.bl true) := chkPr_ok d1_v4 (by decide +kernel)
theorem p29_v4 : r_law_prime_right [G_v4, T_v4, .int 29] = some (.bl true) := chkPr_ok d1_v4 (by decide +kernel)
theorem p31_v4 : r_law_prime_right [G_v4, T_v4, .int 31] = some (.bl true) := chkPr_ok d1_v4 (by decide +kernel)
theorem m_v4 : (menu 4).all (chkMs G_v4 P_v4) = true := by decide +kernel
theorem bd_v4 : P_v4.all (chkBd (st1 G_v4 T_v4 b_v4 (.int (.ofNat 4)))) = true := by decide +kernel
theorem en_v4 : chkEn (st1 G_v4 T_v4 b_v4 (.int (.ofNat 4))) = true := by decide +kernel
theorem good_v4 : Good G_v4 T_v4 b_v4 (.ofNat 4) where
  r2 := r_v4
  n0 := by decide
  n1 := by decide
  sz := z_v4
  pr := fun p hp => by
    unfold primes at hp
    simp only [List.mem_cons, List.not_mem_nil, or_false] at hp
    rcases hp with rfl | rfl | rfl | rfl | rfl | rfl | rfl | rfl | rfl | rfl | rfl
    · exact p2_v4
    · exact p3_v4
    · exact p5_v4
    · exact p7_v4
    · exact p11_v4
    · exact p13_v4
    · exact p17_v4
    · exact p19_v4
    · exact p23_v4
    · exact p29_v4
    · exact p31_v4
  pt := pt_ok (k := 4) m_v4 bd_v4
  en := chkEn_ok en_v4
end K2

namespace K2
open PySem PySem.Spec PyProof.Rows L2 DL DN
theorem kit_self {K : PySem.W.Frag} : PySem.W.kitOne K (.ref aG) (.ref aG) = some true := if_pos (by rfl)
theorem ktup_of {K : PySem.W.Frag} {a : Addr} {is : List Int} {its : Array Value} {n : Nat} (h : K.lookup a = some { cls := .type "tuple", data := .seq its n }) (hs : its.size ≤ sizeLine) (v : Vals (is.map V.int) its.toList) : KTup K a is := fun H => .inr ⟨_, its, n, h, rfl, rfl, hs, v⟩
set_option maxHeartbeats 8000000 in
theorem all_law {P : Program} {w : World} {K : PySem.W.Frag} {h : Heap} {mg : Str → Option Value} {fa : Addr} (X : K.In h) (Gh : h.Ns mainGlobals mg) (hfa : mg "law" = some (.ref fa)) (A : ∀ base : Heap, Nonempty (All P w K mg base)) (okG : GdOk) (okR : ∀ G, RelGD G → ∃ T b n, Good G T b n)
  {f_law_dice : Addr} {od_law_dice an_law_dice : Option Addr} {sl_law_dice : Array (Option Value)} {oc_law_dice kV_law_dice dc_law_dice pm_law_dice cd_law_dice ct_law_dice : Value}
  {f_law_roll : Addr} {od_law_roll an_law_roll : Option Addr} {sl_law_roll : Array (Option Value)} {oc_law_roll kV_law_roll dc_law_roll pm_law_roll cd_law_roll ct_law_roll : Value}
  {f_law_one_of : Addr} {od_law_one_of an_law_one_of : Option Addr} {sl_law_one_of : Array (Option Value)} {oc_law_one_of kV_law_one_of dc_law_one_of pm_law_one_of cd_law_one_of ct_law_one_of : Value}
  {f_law_group_drawn : Addr} {od_law_group_drawn an_law_group_drawn : Option Addr} {sl_law_group_drawn : Array (Option Value)} {oc_law_group_drawn kV_law_group_drawn dc_law_group_drawn pm_law_group_drawn cd_law_group_drawn ct_law_group_drawn : Value}
  {f_law_part_drawn : Addr} {od_law_part_drawn an_law_part_drawn : Option Addr} {sl_law_part_drawn : Array (Option Value)} {oc_law_part_drawn kV_law_part_drawn dc_law_part_drawn pm_law_part_drawn cd_law_part_drawn ct_law_part_drawn : Value}
  {f_law_right : Addr} {od_law_right an_law_right : Option Addr} {sl_law_right : Array (Option Value)} {oc_law_right kV_law_right dc_law_right pm_law_right cd_law_right ct_law_right : Value}
  {f_law : Addr} {od_law an_law : Option Addr} {sl_law : Array (Option Value)} {oc_law kV_law dc_law pm_law cd_law ct_law : Value}
  (a_law_dice : PySem.W.nsIn K mainGlobals "_law_dice" = some (some (.ref f_law_dice)))
  (l_law_dice : K.lookup f_law_dice = some ⟨oc_law_dice, od_law_dice, .func (PySem.W.fnOf "_law_dice" "_law_dice" (defArgs slaw_dice) (defBody slaw_dice) (defScope slaw_dice) .none kV_law_dice dc_law_dice pm_law_dice an_law_dice cd_law_dice ct_law_dice), sl_law_dice⟩)
  (c_law_dice : PySem.W.codeIn K cd_law_dice "_law_dice" = true)
  (k_law_dice : PySem.W.keepIn K (.ref f_law_dice) = true)
  (a_law_roll : PySem.W.nsIn K mainGlobals "_law_roll" = some (some (.ref f_law_roll)))
  (l_law_roll : K.lookup f_law_roll = some ⟨oc_law_roll, od_law_roll, .func (PySem.W.fnOf "_law_roll" "_law_roll" (defArgs slaw_roll) (defBody slaw_roll) (defScope slaw_roll) .none kV_law_roll dc_law_roll pm_law_roll an_law_roll cd_law_roll ct_law_roll), sl_law_roll⟩)
  (c_law_roll : PySem.W.codeIn K cd_law_roll "_law_roll" = true)
  (k_law_roll : PySem.W.keepIn K (.ref f_law_roll) = true)
  (a_law_one_of : PySem.W.nsIn K mainGlobals "_law_one_of" = some (some (.ref f_law_one_of)))
  (l_law_one_of : K.lookup f_law_one_of = some ⟨oc_law_one_of, od_law_one_of, .func (PySem.W.fnOf "_law_one_of" "_law_one_of" (defArgs slaw_one_of) (defBody slaw_one_of) (defScope slaw_one_of) .none kV_law_one_of dc_law_one_of pm_law_one_of an_law_one_of cd_law_one_of ct_law_one_of), sl_law_one_of⟩)
  (c_law_one_of : PySem.W.codeIn K cd_law_one_of "_law_one_of" = true)
  (k_law_one_of : PySem.W.keepIn K (.ref f_law_one_of) = true)
  (a_law_group_drawn : PySem.W.nsIn K mainGlobals "_law_group_drawn" = some (some (.ref f_law_group_drawn)))
  (l_law_group_drawn : K.lookup f_law_group_drawn = some ⟨oc_law_group_drawn, od_law_group_drawn, .func (PySem.W.fnOf "_law_group_drawn" "_law_group_drawn" (defArgs slaw_group_drawn) (defBody slaw_group_drawn) (defScope slaw_group_drawn) .none kV_law_group_drawn dc_law_group_drawn pm_law_group_drawn an_law_group_drawn cd_law_group_drawn ct_law_group_drawn), sl_law_group_drawn⟩)
  (c_law_group_drawn : PySem.W.codeIn K cd_law_group_drawn "_law_group_drawn" = true)
  (k_law_group_drawn : PySem.W.keepIn K (.ref f_law_group_drawn) = true)
  (a_law_part_drawn : PySem.W.nsIn K mainGlobals "_law_part_drawn" = some (some (.ref f_law_part_drawn)))
  (l_law_part_drawn : K.lookup f_law_part_drawn = some ⟨oc_law_part_drawn, od_law_part_drawn, .func (PySem.W.fnOf "_law_part_drawn" "_law_part_drawn" (defArgs slaw_part_drawn) (defBody slaw_part_drawn) (defScope slaw_part_drawn) .none kV_law_part_drawn dc_law_part_drawn pm_law_part_drawn an_law_part_drawn cd_law_part_drawn ct_law_part_drawn), sl_law_part_drawn⟩)
  (c_law_part_drawn : PySem.W.codeIn K cd_law_part_drawn "_law_part_drawn" = true)
  (k_law_part_drawn : PySem.W.keepIn K (.ref f_law_part_drawn) = true)
  (a_law_right : PySem.W.nsIn K mainGlobals "_law_right" = some (some (.ref f_law_right)))
  (l_law_right : K.lookup f_law_right = some ⟨oc_law_right, od_law_right, .func (PySem.W.fnOf "_law_right" "_law_right" (defArgs slaw_right) (defBody slaw_right) (defScope slaw_right) .none kV_law_right dc_law_right pm_law_right an_law_right cd_law_right ct_law_right), sl_law_right⟩)
  (c_law_right : PySem.W.codeIn K cd_law_right "_law_right" = true)
  (k_law_right : PySem.W.keepIn K (.ref f_law_right) = true)
  (a_law : PySem.W.nsIn K mainGlobals "law" = some (some (.ref f_law)))
  (l_law : K.lookup f_law = some ⟨oc_law, od_law, .func (PySem.W.fnOf "law" "law" (defArgs slaw) (defBody slaw) (defScope slaw) .none kV_law dc_law pm_law an_law cd_law ct_law), sl_law⟩)
  (c_law : PySem.W.codeIn K cd_law "law" = true)
  (k_law : PySem.W.keepIn K (.ref f_law) = true)
  (y_len : PySem.W.nsIn K mainGlobals "len" = some none)
  (y_int : PySem.W.nsIn K mainGlobals "int" = some none)
  (y_abs : PySem.W.nsIn K mainGlobals "abs" = some none)
  (y_sorted : PySem.W.nsIn K mainGlobals "sorted" = some none)
  (y_range : PySem.W.nsIn K mainGlobals "range" = some none)
  (y_tuple : PySem.W.nsIn K mainGlobals "tuple" = some none)
  (y_max : PySem.W.nsIn K mainGlobals "max" = some none)
  (y_min : PySem.W.nsIn K mainGlobals "min" = some none) : ∃ fd : FuncData, (∀ (s : Shared) (u : Value), BindsTo s fd ⟨[u], []⟩ [("_law_script", u)]) ∧ ∀ base : Heap, K.In base → base.Ns mainGlobals mg → FnOk P w K mg base CX0 10 fa fd ["_law_script"] (spLaw K) := by
  have z_len : mg "len" = none := PySem.W.mg_none_of X Gh y_len
  have z_int : mg "int" = none := PySem.W.mg_none_of X Gh y_int
  have z_abs : mg "abs" = none := PySem.W.mg_none_of X Gh y_abs
  have z_sorted : mg "sorted" = none := PySem.W.mg_none_of X Gh y_sorted
  have z_range : mg "range" = none := PySem.W.mg_none_of X Gh y_range
  have z_tuple : mg "tuple" = none := PySem.W.mg_none_of X Gh y_tuple
  have z_max : mg "max" = none := PySem.W.mg_none_of X Gh y_max
  have z_min : mg "min" = none := PySem.W.mg_none_of X Gh y_min
  have Fu_law_dice := fun_mk (st := slaw_dice) l_law_dice c_law_dice k_law_dice
  have b_law_dice := Fu_law_dice.binds (ps := ["_law_script", "_law_at"]) fun _ _ _ _ _ _ us hl => match us, hl with | [_, _], _ => rfl
  have Fu_law_roll := fun_mk (st := slaw_roll) l_law_roll c_law_roll k_law_roll
  have b_law_roll := Fu_law_roll.binds (ps := ["_law_dice_here", "_law_total"]) fun _ _ _ _ _ _ us hl => match us, hl with | [_, _], _ => rfl
  have Fu_law_one_of := fun_mk (st := slaw_one_of) l_law_one_of c_law_one_of k_law_one_of
  have b_law_one_of := Fu_law_one_of.binds (ps := ["_law_dice_here", "_law_items"]) fun _ _ _ _ _ _ us hl => match us, hl with | [_, _], _ => rfl
  have Fu_law_group_drawn := fun_mk (st := slaw_group_drawn) l_law_group_drawn c_law_group_drawn k_law_group_drawn
  have b_law_group_drawn := Fu_law_group_drawn.binds (ps := ["_law_dice_here", "_law_most"]) fun _ _ _ _ _ _ us hl => match us, hl with | [_, _], _ => rfl
  have Fu_law_part_drawn := fun_mk (st := slaw_part_drawn) l_law_part_drawn c_law_part_drawn k_law_part_drawn
  have b_law_part_drawn := Fu_law_part_drawn.binds (ps := ["_law_dice_here", "_law_group_here"]) fun _ _ _ _ _ _ us hl => match us, hl with | [_, _], _ => rfl
  have Fu_law_right := fun_mk (st := slaw_right) l_law_right c_law_right k_law_right
  have b_law_right := Fu_law_right.binds (ps := ["_law_dice_here"]) fun _ _ _ _ _ _ us hl => match us, hl with | [_], _ => rfl
  have Fu_law := fun_mk (st := slaw) l_law c_law k_law
  have b_law := Fu_law.binds (ps := ["_law_script"]) fun _ _ _ _ _ _ us hl => match us, hl with | [_], _ => rfl
  have e := hfa.symm.trans (PySem.W.mg_of X Gh a_law)
  cases e
  refine ⟨PySem.W.fnOf "law" "law" (defArgs slaw) (defBody slaw) (defScope slaw) .none kV_law dc_law pm_law an_law cd_law ct_law, fun s u => .of_eq rfl, fun base _ _ => ?_⟩
  obtain ⟨A⟩ := A base
  have Dr_law_dice : OwnS P w K mg base 1 "_law_dice" (spDice K) := ⟨_, _, _, ok_law_dice Fu_law_dice z_len z_int z_abs, PySem.W.mg_of X Gh a_law_dice, k_law_dice, b_law_dice⟩
  have Dr_law_roll : OwnS P w K mg base 1 "_law_roll" spRoll := ⟨_, _, _, ok_law_roll Fu_law_roll z_int, PySem.W.mg_of X Gh a_law_roll, k_law_roll, b_law_roll⟩
  have Dr_law_one_of : OwnS P w K mg base 2 "_law_one_of" (spOne K) := ⟨_, _, _, ok_law_one_of Fu_law_one_of Dr_law_roll z_len, PySem.W.mg_of X Gh a_law_one_of, k_law_one_of, b_law_one_of⟩
  have Dr_law_group_drawn : OwnS P w K mg base 4 "_law_group_drawn" (spGD K) := ⟨_, _, _, ok_law_group_drawn okG Fu_law_group_drawn Dr_law_one_of A.F__law_group A.F__law_ready_moves z_int z_sorted, PySem.W.mg_of X Gh a_law_group_drawn, k_law_group_drawn, b_law_group_drawn⟩
  have Dr_law_part_drawn : OwnS P w K mg base 3 "_law_part_drawn" (spPD K) := ⟨_, _, _, ok_law_part_drawn Fu_law_part_drawn Dr_law_roll A.F__law_part z_range, PySem.W.mg_of X Gh a_law_part_drawn, k_law_part_drawn, b_law_part_drawn⟩
  have Dr_law_right : OwnS P w K mg base 9 "_law_right" spRight := ⟨_, _, _, ok_law_right okR Fu_law_right Dr_law_group_drawn Dr_law_one_of Dr_law_part_drawn A.F__law_moved_part A.F__law_part A.F__law_prime_right A.F_centralizer_of A.F_generated_rounds A.F_is_commuting A.F_normalizer_of A.Init z_range z_sorted z_tuple, PySem.W.mg_of X Gh a_law_right, k_law_right, b_law_right⟩
  exact ok_law Fu_law Dr_law_dice Dr_law_right z_range z_max z_min z_len
end K2

namespace K2
open PySem PySem.Spec L2 DL DN
theorem gd_st : mgd (.unk :: gd0) = some (.nx (.unk :: [.fro (.int 12), .own (.dct false [.str (Str.ofString "v4"), .str (Str.ofString "c2c4"), .str (Str.ofString "c3c3"), .str (Str.ofString "s3"), .str (Str.ofString "d4"), .str (Str.ofString "q8"), .str (Str.ofString "a4"), .str (Str.ofString "d5"), .str (Str.ofString "d6")] [.int 4, .int 8, .int 9, .int 6, .int 8, .int 8, .int 12, .int 10, .int 12]), .unk, .fro (.lst names), .fro (.lst names)])) := nxeq_ok (by decide +kernel)
theorem names_are {e : D} (h : e ∈ names) : e = .str (Str.ofString "a4") ∨ e = .str (Str.ofString "c1") ∨ e = .str (Str.ofString "c2") ∨ e = .str (Str.ofString "c2c4") ∨ e = .str (Str.ofString "c3") ∨ e = .str (Str.ofString "c3c3") ∨ e = .str (Str.ofString "c4") ∨ e = .str (Str.ofString "c5") ∨ e = .str (Str.ofString "c6") ∨ e = .str (Str.ofString "c7") ∨ e = .str (Str.ofString "c8") ∨ e = .str (Str.ofString "d4") ∨ e = .str (Str.ofString "d5") ∨ e = .str (Str.ofString "d6") ∨ e = .str (Str.ofString "q8") ∨ e = .str (Str.ofString "s3") ∨ e = .str (Str.ofString "v4") := by
  unfold names at h
  simp only [List.map_cons, List.map_nil, List.mem_cons, List.not_mem_nil, or_false] at h
  exact h
theorem okG : GdOk where
  st := ⟨_, gd_st, rfl⟩
  nm := fun e he => by
    rcases names_are he with rfl | rfl | rfl | rfl | rfl | rfl | rfl | rfl | rfl | rfl | rfl | rfl | rfl | rfl | rfl | rfl | rfl
    · exact ⟨mv_a4, G_a4, mv_ok_a4, g_a4⟩
    · exact ⟨mv_c1, G_c1, mv_ok_c1, g_c1⟩
    · exact ⟨mv_c2, G_c2, mv_ok_c2, g_c2⟩
    · exact ⟨mv_c2c4, G_c2c4, mv_ok_c2c4, g_c2c4⟩
    · exact ⟨mv_c3, G_c3, mv_ok_c3, g_c3⟩
    · exact ⟨mv_c3c3, G_c3c3, mv_ok_c3c3, g_c3c3⟩
    · exact ⟨mv_c4, G_c4, mv_ok_c4, g_c4⟩
    · exact ⟨mv_c5, G_c5, mv_ok_c5, g_c5⟩
    · exact ⟨mv_c6, G_c6, mv_ok_c6, g_c6⟩
    · exact ⟨mv_c7, G_c7, mv_ok_c7, g_c7⟩
    · exact ⟨mv_c8, G_c8, mv_ok_c8, g_c8⟩
    · exact ⟨mv_d4, G_d4, mv_ok_d4, g_d4⟩
    · exact ⟨mv_d5, G_d5, mv_ok_d5, g_d5⟩
    · exact ⟨mv_d6, G_d6, mv_ok_d6, g_d6⟩
    · exact ⟨mv_q8, G_q8, mv_ok_q8, g_q8⟩
    · exact ⟨mv_s3, G_s3, mv_ok_s3, g_s3⟩
    · exact ⟨mv_v4, G_v4, mv_ok_v4, g_v4⟩
theorem two_mv {e a b : D} (h : fGet ready e = some (some a)) (k : fGet ready e = some (some b)) : a = b := by
  rw [h] at k
  injection k with k
  injection k
theorem two_G {a b mv : D} (h : r_law_group [mv] = some a) (k : r_law_group [mv] = some b) : a = b := by
  rw [h] at k
  injection k
theorem okR (G : D) (h : RelGD G) : ∃ T b n, Good G T b n := by
  obtain ⟨e, mv, he, h1, h2⟩ := h
  rcases names_are he with rfl | rfl | rfl | rfl | rfl | rfl | rfl | rfl | rfl | rfl | rfl | rfl | rfl | rfl | rfl | rfl | rfl
  · obtain rfl := two_mv h1 mv_ok_a4
    obtain rfl := two_G h2 g_a4
    exact ⟨T_a4, b_a4, .ofNat 12, good_a4⟩
  · obtain rfl := two_mv h1 mv_ok_c1
    obtain rfl := two_G h2 g_c1
    exact ⟨T_c1, b_c1, .ofNat 1, good_c1⟩
  · obtain rfl := two_mv h1 mv_ok_c2
    obtain rfl := two_G h2 g_c2
    exact ⟨T_c2, b_c2, .ofNat 2, good_c2⟩
  · obtain rfl := two_mv h1 mv_ok_c2c4
    obtain rfl := two_G h2 g_c2c4
    exact ⟨T_c2c4, b_c2c4, .ofNat 8, good_c2c4⟩
  · obtain rfl := two_mv h1 mv_ok_c3
    obtain rfl := two_G h2 g_c3
    exact ⟨T_c3, b_c3, .ofNat 3, good_c3⟩
  · obtain rfl := two_mv h1 mv_ok_c3c3
    obtain rfl := two_G h2 g_c3c3
    exact ⟨T_c3c3, b_c3c3, .ofNat 9, good_c3c3⟩
  · obtain rfl := two_mv h1 mv_ok_c4
    obtain rfl := two_G h2 g_c4
    exact ⟨T_c4, b_c4, .ofNat 4, good_c4⟩
  · obtain rfl := two_mv h1 mv_ok_c5
    obtain rfl := two_G h2 g_c5
    exact ⟨T_c5, b_c5, .ofNat 5, good_c5⟩
  · obtain rfl := two_mv h1 mv_ok_c6
    obtain rfl := two_G h2 g_c6
    exact ⟨T_c6, b_c6, .ofNat 6, good_c6⟩
  · obtain rfl := two_mv h1 mv_ok_c7
    obtain rfl := two_G h2 g_c7
    exact ⟨T_c7, b_c7, .ofNat 7, good_c7⟩
  · obtain rfl := two_mv h1 mv_ok_c8
    obtain rfl := two_G h2 g_c8
    exact ⟨T_c8, b_c8, .ofNat 8, good_c8⟩
  · obtain rfl := two_mv h1 mv_ok_d4
    obtain rfl := two_G h2 g_d4
    exact ⟨T_d4, b_d4, .ofNat 8, good_d4⟩
  · obtain rfl := two_mv h1 mv_ok_d5
    obtain rfl := two_G h2 g_d5
    exact ⟨T_d5, b_d5, .ofNat 10, good_d5⟩
  · obtain rfl := two_mv h1 mv_ok_d6
    obtain rfl := two_G h2 g_d6
    exact ⟨T_d6, b_d6, .ofNat 12, good_d6⟩
  · obtain rfl := two_mv h1 mv_ok_q8
    obtain rfl := two_G h2 g_q8
    exact ⟨T_q8, b_q8, .ofNat 8, good_q8⟩
  · obtain rfl := two_mv h1 mv_ok_s3
    obtain rfl := two_G h2 g_s3
    exact ⟨T_s3, b_s3, .ofNat 6, good_s3⟩
  · obtain rfl := two_mv h1 mv_ok_v4
    obtain rfl := two_G h2 g_v4
    exact ⟨T_v4, b_v4, .ofNat 4, good_v4⟩
end K2

open PySem PySem.W PyProof.Rows
set_option maxRecDepth 100000 in
set_option maxHeartbeats 0 in
theorem PySem.Challenge.cw_groupsover_k02_whole_prime_parts_and_wha_holds : PySem.Challenge.rw_groupsover_k02_whole_prime_parts_and_wha.Holds := by
  w_on; o_law; k_head; (case hw => w_witness2)
  k_fill
  refine L2.walk_ofK (n := 63) (k := 10) (x := "_law_script") (CX := L2.CX0) (sp := K2.spLaw) rfl (by decide) rfl ⟨rfl, by decide, by decide⟩ (fun w h Y => PySem.W.kIn_of Y) ?F (fun K H a ns _ _ h => ⟨a, ns, rfl, h, fun _ => rfl⟩) (fun _ _ _ _ z => z)
  case F =>
    intro w mg fa h KX G hmg
    refine' (fun A => ?fin) (fun base => K2.all_own (P := PySem.Challenge.pw_groupsover_k02_whole_prime_parts_and_wha) (w := w) (base := base) KX G (a_is_short := ?a_is_short) (l_is_short := ?l_is_short) (c_is_short := ?c_is_short) (k_is_short := ?k_is_short) (a_is_integer := ?a_is_integer) (l_is_integer := ?l_is_integer) (c_is_integer := ?c_is_integer) (k_is_integer := ?k_is_integer) (a_is_within := ?a_is_within) (l_is_within := ?l_is_within) (c_is_within := ?c_is_within) (k_is_within := ?k_is_within) (a_joined := ?a_joined) (l_joined := ?l_joined) (c_joined := ?c_joined) (k_joined := ?k_joined) (a_all_renamings := ?a_all_renamings) (l_all_renamings := ?l_all_renamings) (c_all_renamings := ?c_all_renamings) (k_all_renamings := ?k_all_renamings) (a_power_of := ?a_power_of) (l_power_of := ?l_power_of) (c_power_of := ?c_power_of) (k_power_of := ?k_power_of) (a_closed_members := ?a_closed_members) (l_closed_members := ?l_closed_members) (c_closed_members := ?c_closed_members) (k_closed_members := ?k_closed_members) (a_is_renaming := ?a_is_renaming) (l_is_renaming := ?l_is_renaming) (c_is_renaming := ?c_is_renaming) (k_is_renaming := ?k_is_renaming) (a_are_moves := ?a_are_moves) (l_are_moves := ?l_are_moves) (c_are_moves := ?c_are_moves) (k_are_moves := ?k_are_moves) (a_law_behind := ?a_law_behind) (l_law_behind := ?l_law_behind) (c_law_behind := ?c_law_behind) (k_law_behind := ?k_law_behind) (a_law_made := ?a_law_made) (l_law_made := ?l_law_made) (c_law_made := ?c_law_made) (k_law_made := ?k_law_made) (a_law_round_moves := ?a_law_round_moves) (l_law_round_moves := ?l_law_round_moves) (c_law_round_moves := ?c_law_round_moves) (k_law_round_moves := ?k_law_round_moves) (a_law_part := ?a_law_part) (l_law_part := ?l_law_part) (c_law_part := ?c_law_part) (k_law_part := ?k_law_part) (a_law_moved_part := ?a_law_moved_part) (l_law_moved_part := ?l_law_moved_part) (c_law_moved_part := ?c_law_moved_part) (k_law_moved_part := ?k_law_moved_part) (a_law_greatest := ?a_law_greatest) (l_law_greatest := ?l_law_greatest) (c_law_greatest := ?c_law_greatest) (k_law_greatest := ?k_law_greatest) (a_p_size := ?a_p_size) (g_p_size := ?g_p_size) (t_p_size := ?t_p_size) (e_p_size := ?e_p_size) (l_p_size := ?l_p_size) (c_p_size := ?c_p_size) (k_p_size := ?k_p_size) (a_p_moves := ?a_p_moves) (g_p_moves := ?g_p_moves) (t_p_moves := ?t_p_moves) (e_p_moves := ?e_p_moves) (l_p_moves := ?l_p_moves) (c_p_moves := ?c_p_moves) (k_p_moves := ?k_p_moves) (a_p_all_products := ?a_p_all_products) (g_p_all_products := ?g_p_all_products) (t_p_all_products := ?t_p_all_products) (e_p_all_products := ?e_p_all_products) (l_p_all_products := ?l_p_all_products) (c_p_all_products := ?c_p_all_products) (k_p_all_products := ?k_p_all_products) (a_p_all_inverses := ?a_p_all_inverses) (g_p_all_inverses := ?g_p_all_inverses) (t_p_all_inverses := ?t_p_all_inverses) (e_p_all_inverses := ?e_p_all_inverses) (l_p_all_inverses := ?l_p_all_inverses) (c_p_all_inverses := ?c_p_all_inverses) (k_p_all_inverses := ?k_p_all_inverses) (a_is_member := ?a_is_member) (l_is_member := ?l_is_member) (c_is_member := ?c_is_member) (k_is_member := ?k_is_member) (a_need_group := ?a_need_group) (l_need_group := ?l_need_group) (c_need_group := ?c_need_group) (k_need_group := ?k_need_group) (a_need_member := ?a_need_member) (l_need_member := ?l_need_member) (c_need_member := ?c_need_member) (k_need_member := ?k_need_member) (a_is_group_part := ?a_is_group_part) (l_is_group_part := ?l_is_group_part) (c_is_group_part := ?c_is_group_part) (k_is_group_part := ?k_is_group_part) (a_need_part := ?a_need_part) (l_need_part := ?l_need_part) (c_need_part := ?c_need_part) (k_need_part := ?k_need_part) (a_moved_members := ?a_moved_members) (l_moved_members := ?l_moved_members) (c_moved_members := ?c_moved_members) (k_moved_members := ?k_moved_members) (a_moved_part := ?a_moved_part) (l_moved_part := ?l_moved_part) (c_moved_part := ?c_moved_part) (k_moved_part := ?k_moved_part) (a_need_prime := ?a_need_prime) (l_need_prime := ?l_need_prime) (c_need_prime := ?c_need_prime) (k_need_prime := ?k_need_prime) (a_greater_part := ?a_greater_part) (l_greater_part := ?l_greater_part) (c_greater_part := ?c_greater_part) (k_greater_part := ?k_greater_part) (a_prime_part := ?a_prime_part) (l_prime_part := ?l_prime_part) (c_prime_part := ?c_prime_part) (k_prime_part := ?k_prime_part) (a_normalizer_of := ?a_normalizer_of) (l_normalizer_of := ?l_normalizer_of) (c_normalizer_of := ?c_normalizer_of) (k_normalizer_of := ?k_normalizer_of) (a_generated_rounds := ?a_generated_rounds) (l_generated_rounds := ?l_generated_rounds) (c_generated_rounds := ?c_generated_rounds) (k_generated_rounds := ?k_generated_rounds) (a_is_commuting := ?a_is_commuting) (l_is_commuting := ?l_is_commuting) (c_is_commuting := ?c_is_commuting) (k_is_commuting := ?k_is_commuting) (a_centralizer_of := ?a_centralizer_of) (l_centralizer_of := ?l_centralizer_of) (c_centralizer_of := ?c_centralizer_of) (k_centralizer_of := ?k_centralizer_of) (a_law_group := ?a_law_group) (l_law_group := ?l_law_group) (c_law_group := ?c_law_group) (k_law_group := ?k_law_group) (a_law_ready_moves := ?a_law_ready_moves) (l_law_ready_moves := ?l_law_ready_moves) (c_law_ready_moves := ?c_law_ready_moves) (k_law_ready_moves := ?k_law_ready_moves) (a_law_parts_of_size := ?a_law_parts_of_size) (l_law_parts_of_size := ?l_law_parts_of_size) (c_law_parts_of_size := ?c_law_parts_of_size) (k_law_parts_of_size := ?k_law_parts_of_size) (a_law_prime_right := ?a_law_prime_right) (l_law_prime_right := ?l_law_prime_right) (c_law_prime_right := ?c_law_prime_right) (k_law_prime_right := ?k_law_prime_right) (a_self_settle := ?a_self_settle) (i_self_settle := ?i_self_settle) (l_self_settle := ?l_self_settle) (c_self_settle := ?c_self_settle) (k_self_settle := ?k_self_settle) (a_self_init := ?a_self_init) (i_self_init := ?i_self_init) (l_self_init := ?l_self_init) (c_self_init := ?c_self_init) (k_self_init := ?k_self_init) (pg := ?pg) (hd := ?hd) (po := ?po) (sa := ?sa) (n1 := ?n1) (n2 := ?n2) (n3 := ?n3) (n4 := ?n4) (h2 := ?h2) (h3 := ?h3) (h4 := ?h4) (h5 := ?h5) (kt := ?kt) (aC := ?aC) (mk := ?mk) (kc := ?kc) (y_FIRST_TOO_LONG := ?y_FIRST_TOO_LONG) (y_int := ?y_int) (y_isinstance := ?y_isinstance) (y_bool := ?y_bool) (y_tuple := ?y_tuple) (y_len := ?y_len) (y_range := ?y_range) (y_MAX_SIZE := ?y_MAX_SIZE) (y_sorted := ?y_sorted) (y_MAX_PLACES := ?y_MAX_PLACES) (y_all := ?y_all) (y_set := ?y_set) (y_MOST_MOVES := ?y_MOST_MOVES) (y_list := ?y_list) (y_PRIMES := ?y_PRIMES) (y_enumerate := ?y_enumerate) (y_dict := ?y_dict) (y_str := ?y_str) (k_PRIMES := ?k_PRIMES))
    (case a_is_short => k_is)
    (case l_is_short => k_is)
    (case c_is_short => k_is)
    (case k_is_short => k_is)
    (case a_is_integer => k_is)
    (case l_is_integer => k_is)
    (case c_is_integer => k_is)
    (case k_is_integer => k_is)
    (case a_is_within => k_is)
    (case l_is_within => k_is)
    (case c_is_within => k_is)
    (case k_is_within => k_is)
    (case a_joined => k_is)
    (case l_joined => k_is)
    (case c_joined => k_is)
    (case k_joined => k_is)
    (case a_all_renamings => k_is)
    (case l_all_renamings => k_is)
    (case c_all_renamings => k_is)
    (case k_all_renamings => k_is)
    (case a_power_of => k_is)
    (case l_power_of => k_is)
    (case c_power_of => k_is)
    (case k_power_of => k_is)
    (case a_closed_members => k_is)
    (case l_closed_members => k_is)
    (case c_closed_members => k_is)
    (case k_closed_members => k_is)
    (case a_is_renaming => k_is)
    (case l_is_renaming => k_is)
    (case c_is_renaming => k_is)
    (case k_is_renaming => k_is)
    (case a_are_moves => k_is)
    (case l_are_moves => k_is)
    (case c_are_moves => k_is)
    (case k_are_moves => k_is)
    (case a_law_behind => k_is)
    (case l_law_behind => k_is)
    (case c_law_behind => k_is)
    (case k_law_behind => k_is)
    (case a_law_made => k_is)
    (case l_law_made => k_is)
    (case c_law_made => k_is)
    (case k_law_made => k_is)
    (case a_law_round_moves => k_is)
    (case l_law_round_moves => k_is)
    (case c_law_round_moves => k_is)
    (case k_law_round_moves => k_is)
    (case a_law_part => k_is)
    (case l_law_part => k_is)
    (case c_law_part => k_is)
    (case k_law_part => k_is)
    (case a_law_moved_part => k_is)
    (case l_law_moved_part => k_is)
    (case c_law_moved_part => k_is)
    (case k_law_moved_part => k_is)
    (case a_law_greatest => k_is)
    (case l_law_greatest => k_is)
    (case c_law_greatest => k_is)
    (case k_law_greatest => k_is)
    (case a_p_size => k_is)
    (case g_p_size => k_is)
    (case t_p_size => k_is)
    (case e_p_size => k_is)
    (case l_p_size => k_is)
    (case c_p_size => k_is)
    (case k_p_size => k_is)
    (case a_p_moves => k_is)
    (case g_p_moves => k_is)
    (case t_p_moves => k_is)
    (case e_p_moves => k_is)
    (case l_p_moves => k_is)
    (case c_p_moves => k_is)
    (case k_p_moves => k_is)
    (case a_p_all_products => k_is)
    (case g_p_all_products => k_is)
    (case t_p_all_products => k_is)
    (case e_p_all_products => k_is)
    (case l_p_all_products => k_is)
    (case c_p_all_products => k_is)
    (case k_p_all_products => k_is)
    (case a_p_all_inverses => k_is)
    (case g_p_all_inverses => k_is)
    (case t_p_all_inverses => k_is)
    (case e_p_all_inverses => k_is)
    (case l_p_all_inverses => k_is)
    (case c_p_all_inverses => k_is)
    (case k_p_all_inverses => k_is)
    (case a_is_member => k_is)
    (case l_is_member => k_is)
    (case c_is_member => k_is)
    (case k_is_member => k_is)
    (case a_need_group => k_is)
    (case l_need_group => k_is)
    (case c_need_group => k_is)
    (case k_need_group => k_is)
    (case a_need_member => k_is)
    (case l_need_member => k_is)
    (case c_need_member => k_is)
    (case k_need_member => k_is)
    (case a_is_group_part => k_is)
    (case l_is_group_part => k_is)
    (case c_is_group_part => k_is)
    (case k_is_group_part => k_is)
    (case a_need_part => k_is)
    (case l_need_part => k_is)
    (case c_need_part => k_is)
    (case k_need_part => k_is)
    (case a_moved_members => k_is)
    (case l_moved_members => k_is)
    (case c_moved_members => k_is)
    (case k_moved_members => k_is)
    (case a_moved_part => k_is)
    (case l_moved_part => k_is)
    (case c_moved_part => k_is)
    (case k_moved_part => k_is)
    (case a_need_prime => k_is)
    (case l_need_prime => k_is)
    (case c_need_prime => k_is)
    (case k_need_prime => k_is)
    (case a_greater_part => k_is)
    (case l_greater_part => k_is)
    (case c_greater_part => k_is)
    (case k_greater_part => k_is)
    (case a_prime_part => k_is)
    (case l_prime_part => k_is)
    (case c_prime_part => k_is)
    (case k_prime_part => k_is)
    (case a_normalizer_of => k_is)
    (case l_normalizer_of => k_is)
    (case c_normalizer_of => k_is)
    (case k_normalizer_of => k_is)
    (case a_generated_rounds => k_is)
    (case l_generated_rounds => k_is)
    (case c_generated_rounds => k_is)
    (case k_generated_rounds => k_is)
    (case a_is_commuting => k_is)
    (case l_is_commuting => k_is)
    (case c_is_commuting => k_is)
    (case k_is_commuting => k_is)
    (case a_centralizer_of => k_is)
    (case l_centralizer_of => k_is)
    (case c_centralizer_of => k_is)
    (case k_centralizer_of => k_is)
    (case a_law_group => k_is)
    (case l_law_group => k_is)
    (case c_law_group => k_is)
    (case k_law_group => k_is)
    (case a_law_ready_moves => k_is)
    (case l_law_ready_moves => k_is)
    (case c_law_ready_moves => k_is)
    (case k_law_ready_moves => k_is)
    (case a_law_parts_of_size => k_is)
    (case l_law_parts_of_size => k_is)
    (case c_law_parts_of_size => k_is)
    (case k_law_parts_of_size => k_is)
    (case a_law_prime_right => k_is)
    (case l_law_prime_right => k_is)
    (case c_law_prime_right => k_is)
    (case k_law_prime_right => k_is)
    (case a_self_settle => k_is)
    (case i_self_settle => k_is)
    (case l_self_settle => k_is)
    (case c_self_settle => k_is)
    (case k_self_settle => k_is)
    (case a_self_init => k_is)
    (case i_self_init => k_is)
    (case l_self_init => k_is)
    (case c_self_init => k_is)
    (case k_self_init => k_is)
    (case pg => k_is)
    (case hd => k_is)
    (case po => k_is)
    (case sa => k_is)
    (case n1 => k_is)
    (case n2 => k_is)
    (case n3 => k_is)
    (case n4 => k_is)
    (case h2 => k_is)
    (case h3 => k_is)
    (case h4 => k_is)
    (case h5 => k_is)
    (case kt => exact K2.kit_self)
    (case aC => k_is)
    (case mk => k_is)
    (case kc => k_is)
    (case y_FIRST_TOO_LONG => k_is)
    (case y_int => k_is)
    (case y_isinstance => k_is)
    (case y_bool => k_is)
    (case y_tuple => k_is)
    (case y_len => k_is)
    (case y_range => k_is)
    (case y_MAX_SIZE => k_is)
    (case y_sorted => k_is)
    (case y_MAX_PLACES => k_is)
    (case y_all => k_is)
    (case y_set => k_is)
    (case y_MOST_MOVES => k_is)
    (case y_list => k_is)
    (case y_PRIMES => k_is)
    (case y_enumerate => k_is)
    (case y_dict => k_is)
    (case y_str => k_is)
    (case k_PRIMES => refine' K2.ktup_of ?lp ?sz ?vv; (case lp => k_is); (case sz => decide); (case vv => repeat (first | exact .nil | refine .cons ⟨_, rfl⟩ ?_)))
    refine' K2.all_law KX G hmg A K2.okG K2.okR ?qa_law_dice ?ql_law_dice ?qc_law_dice ?qk_law_dice ?qa_law_roll ?ql_law_roll ?qc_law_roll ?qk_law_roll ?qa_law_one_of ?ql_law_one_of ?qc_law_one_of ?qk_law_one_of ?qa_law_group_drawn ?ql_law_group_drawn ?qc_law_group_drawn ?qk_law_group_drawn ?qa_law_part_drawn ?ql_law_part_drawn ?qc_law_part_drawn ?qk_law_part_drawn ?qa_law_right ?ql_law_right ?qc_law_right ?qk_law_right ?qa_law ?ql_law ?qc_law ?qk_law ?qy_len ?qy_int ?qy_abs ?qy_sorted ?qy_range ?qy_tuple ?qy_max ?qy_min
    (case qa_law_dice => k_is)
    (case ql_law_dice => k_is)
    (case qc_law_dice => k_is)
    (case qk_law_dice => k_is)
    (case qa_law_roll => k_is)
    (case ql_law_roll => k_is)
    (case qc_law_roll => k_is)
    (case qk_law_roll => k_is)
    (case qa_law_one_of => k_is)
    (case ql_law_one_of => k_is)
    (case qc_law_one_of => k_is)
    (case qk_law_one_of => k_is)
    (case qa_law_group_drawn => k_is)
    (case ql_law_group_drawn => k_is)
    (case qc_law_group_drawn => k_is)
    (case qk_law_group_drawn => k_is)
    (case qa_law_part_drawn => k_is)
    (case ql_law_part_drawn => k_is)
    (case qc_law_part_drawn => k_is)
    (case qk_law_part_drawn => k_is)
    (case qa_law_right => k_is)
    (case ql_law_right => k_is)
    (case qc_law_right => k_is)
    (case qk_law_right => k_is)
    (case qa_law => k_is)
    (case ql_law => k_is)
    (case qc_law => k_is)
    (case qk_law => k_is)
    (case qy_len => k_is)
    (case qy_int => k_is)
    (case qy_abs => k_is)
    (case qy_sorted => k_is)
    (case qy_range => k_is)
    (case qy_tuple => k_is)
    (case qy_max => k_is)
    (case qy_min => k_is)
