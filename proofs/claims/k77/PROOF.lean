import PyProof.Rows.All
import Wide.All
import OpenK.AllK
import Wide.FinOn
import HandS.ForMost
import HandS.Deep
import HandS.Conv
import HandS.SortInts
import HandS.TupAny
import HandS.Property
import HandS.Zip
import KE.SortData
import HandS.TupSets
import KE.KIndexOf
import HandS.IsInst
import HandS.TupLen
import HandS.More
import HandS.DictComp
import KE.KDictKeyed
import KE.KDictDisplayH
import KE.KDictCopyH
import KE.GoesEnum
import KE.GoesMore
import HandS.Iter
import KE.KDictPairs
import HandS.SetFor
import HandS.SetBool
import HandS.Set
import HandS.Steps
import HandS.Style
import HandS.Lambda
import KE.SortKeyHeap
import HandS.Wide
import HandS.RevTup
import HandS.ExcInit
import HandS.ExcOwn
import HandS.WordsExc
import KE.KExcInit
import HandS.EndTab
import KE.GoesZip
import PyProof.CallFns
import PyProof.ReprRoads
import HandS.Spec
import HandS.TryMany
import HandS.Gcd
import KE.KMathGC
import HandS.ClsMeth
import HandS.TryOnly
import KE.KNestM
import KE.KExcLine
import PySem.Challenge.RW_groupsover_k77_errors_of_what_comes_agai
set_option Elab.async false
set_option linter.all false
set_option maxRecDepth 100000
/-! values without a heap, and readings that are functions of them -/
namespace DL
open PySem PySem.Spec L2

inductive D where
  | non | bl (b : Bool) | int (i : Int) | str (x : Str) | ty (n : String) | cst (a : Addr)
  | tup (xs : List D) | ktup (xs : List D) | ftup (xs : List D) | lst (xs : List D) | dct (t : Bool) (ks vs : List D) | ins (C : Addr) (ns : List Str) (vs : List D)
  deriving Inhabited

def kD : Key → D
  | .inl i => .int i
  | .inr x => .str x

mutual
/-- v stands for d in the frozen part F -/
inductive Rp (K : PySem.W.Frag) (F : Hp) : V → D → Prop
  | non : Rp K F .non .non
  | bl (b : Bool) : Rp K F (.bl b) (.bl b)
  | int (i : Int) : Rp K F (.int i) (.int i)
  | str (x : Str) : Rp K F (.str x) (.str x)
  | ty (n : String) : Rp K F (.ty n) (.ty n)
  | cst (a : Addr) : Rp K F (.ref a) (.cst a)
  | tupK {a : Addr} {xs : List V} {ds : List D} : (∀ H, SqT K H a xs) → RpL K F xs ds → Rp K F (.ref a) (.ktup ds)
  | obj {a : Addr} {o : HO} {d : D} : F a = some o → RpO K F o d → Rp K F (.ref a) d
inductive RpL (K : PySem.W.Frag) (F : Hp) : List V → List D → Prop
  | nil : RpL K F [] []
  | cons {v : V} {vs : List V} {d : D} {ds : List D} : Rp K F v d → RpL K F vs ds → RpL K F (v :: vs) (d :: ds)
inductive RpO (K : PySem.W.Frag) (F : Hp) : HO → D → Prop
  | tup {xs : List V} {ds : List D} : RpL K F xs ds → RpO K F (.tup xs) (.tup ds)
  | ftup {ob : Obj} {xs : List V} {ds : List D} : ob.cls = .type "tuple" → ob.dict = none → RpL K F xs ds → RpO K F (.frz ob (.tup xs)) (.ftup ds)
  | lst {xs : List V} {ds : List D} : RpL K F xs ds → RpO K F (.lst xs) (.lst ds)
  | dK {kvs : List (Key × V)} {ks vs : List D} : kvs.map (fun p => kD p.1) = ks → RpL K F (kvs.map (·.2)) vs → RpO K F (.dK kvs) (.dct false ks vs)
  | dT {kvs : List (List Key × V)} {ks vs : List D} : kvs.map (fun p => D.tup (p.1.map kD)) = ks → RpL K F (kvs.map (·.2)) vs → RpO K F (.dT kvs) (.dct true ks vs)
  | ins {C dx : Addr} {fs : List (Str × V)} {ns : List Str} {vs : List D} : fs.map (·.1) = ns → RpL K F (fs.map (·.2)) vs → RpO K F (.ins C dx fs) (.ins C ns vs)
end

section
variable {K : PySem.W.Frag} {F F' H H' F0 H0 : Hp}
mutual
theorem Rp.mono (s : Same F F') : ∀ {v : V} {d : D}, Rp K F v d → Rp K F' v d
  | _, _, .non => .non
  | _, _, .bl b => .bl b
  | _, _, .int b => .int b
  | _, _, .str b => .str b
  | _, _, .ty b => .ty b
  | _, _, .cst b => .cst b
  | _, _, .tupK h r => .tupK h (RpL.mono s r)
  | _, _, .obj e r => .obj (s _ _ e) (RpO.mono s r)
theorem RpL.mono (s : Same F F') : ∀ {v : List V} {d : List D}, RpL K F v d → RpL K F' v d
  | _, _, .nil => .nil
  | _, _, .cons r t => .cons (Rp.mono s r) (RpL.mono s t)
theorem RpO.mono (s : Same F F') : ∀ {o : HO} {d : D}, RpO K F o d → RpO K F' o d
  | _, _, .tup r => .tup (RpL.mono s r)
  | _, _, .ftup e1 e2 r => .ftup e1 e2 (RpL.mono s r)
  | _, _, .lst r => .lst (RpL.mono s r)
  | _, _, .dK e r => .dK e (RpL.mono s r)
  | _, _, .dT e r => .dT e (RpL.mono s r)
  | _, _, .ins e r => .ins e (RpL.mono s r)
end
theorem RpL.length : ∀ {v : List V} {d : List D}, RpL K F v d → v.length = d.length
  | _, _, .nil => rfl
  | _, _, .cons _ t => by rw [List.length_cons, List.length_cons, RpL.length t]
theorem RpL.get : ∀ {vs : List V} {ds : List D} {i : Nat} {d : D}, RpL K F vs ds → ds[i]? = some d → ∃ v, vs[i]? = some v ∧ Rp K F v d
  | _, _, _, _, .nil, e => by simp at e
  | _, _, 0, _, .cons r _, e => by simp at e; subst e; exact ⟨_, rfl, r⟩
  | _, _, i + 1, d, .cons _ t, e => by
    obtain ⟨v, h1, h2⟩ := RpL.get (i := i) (d := d) t (by simpa using e)
    exact ⟨v, by simpa using h1, h2⟩
theorem RpL.app : ∀ {vs ws : List V} {ds es : List D}, RpL K F vs ds → RpL K F ws es → RpL K F (vs ++ ws) (ds ++ es)
  | _, _, _, _, .nil, s => s
  | _, _, _, _, .cons r t, s => .cons r (RpL.app t s)
theorem RpL.set {v : V} {d : D} (r : Rp K F v d) : ∀ {vs : List V} {ds : List D} (i : Nat), RpL K F vs ds → RpL K F (vs.set i v) (ds.set i d)
  | _, _, _, .nil => .nil
  | _, _, 0, .cons _ t => .cons r t
  | _, _, i + 1, .cons q t => .cons q (RpL.set r i t)
theorem RpL.dropLast : ∀ {vs : List V} {ds : List D}, RpL K F vs ds → RpL K F vs.dropLast ds.dropLast
  | _, _, .nil => .nil
  | _, _, .cons _ .nil => .nil
  | _, _, .cons r (.cons q t) => .cons r (RpL.dropLast (.cons q t))

def tupO : HO → Bool
  | .tup _ => true
  | _ => false
/-- what may be changed -/
def isOwnD : D → Bool
  | .lst _ => true
  | .dct _ _ _ => true
  | .ins _ _ _ => true
  | _ => false
theorem tupO_own {K : PySem.W.Frag} {F : Hp} {o : HO} {d : D} (r : RpO K F o d) (h : isOwnD d = true) : tupO o = false := by
  cases r <;> first
    | rfl
    | cases h
/-- from F, H to F', H': nothing is changed, the frozen part grows by new things alone -/
structure Ext (F H F' H' : Hp) : Prop where
  f : Same F F'
  h : Same H H'
  s : Same F' H'
  n : ∀ b o, F b = none → H b = some o → tupO o = false → F' b = none
theorem Ext.refl (s : Same F H) : Ext F H F H := ⟨fun _ _ e => e, fun _ _ e => e, s, fun _ _ e _ _ => e⟩
theorem Ext.trans {F1 H1 F2 H2 : Hp} (a : Ext F H F1 H1) (b : Ext F1 H1 F2 H2) : Ext F H F2 H2 :=
  ⟨fun x o e => b.f x o (a.f x o e), fun x o e => b.h x o (a.h x o e), b.s, fun x o e1 e2 e3 => b.n x o (a.n x o e1 e2 e3) (a.h x o e2) e3⟩
theorem Ext.laid {p : Addr} {o : HO} (s : Same F H) (hp : H p = none) : Ext F H (upd F p o) (upd H p o) where
  f := fun b u e => by
    have hb : b ≠ p := fun z => by subst z; rw [s b u e] at hp; cases hp
    rw [upd_ne hb]; exact e
  h := fun b u e => by rw [upd_ne (ne_of_none e hp)]; exact e
  s := fun b u e => by
    by_cases hb : b = p
    · subst hb; rw [upd_same] at e ⊢; exact e
    · rw [upd_ne hb] at e ⊢; exact s b u e
  n := fun b u e1 e2 _ => by rw [upd_ne (ne_of_none e2 hp)]; exact e1
theorem Ext.temp {p : Addr} {o : HO} (s : Same F H) (hp : H p = none) : Ext F H F (upd H p o) where
  f := fun _ _ e => e
  h := fun b u e => by rw [upd_ne (ne_of_none e hp)]; exact e
  s := fun b u e => by rw [upd_ne (ne_of_none (s b u e) hp)]; exact s b u e
  n := fun _ _ e _ _ => e
/-- a new thing that was not frozen yet is frozen -/
theorem Ext.freeze {p : Addr} {o : HO} {F1 H1 : Hp} (a : Ext F H F1 H1) (hp : H p = none) (e : H1 p = some o) (hn : F1 p = none) : Ext F H (upd F1 p o) H1 where
  f := fun b u q => by
    have := a.f b u q
    have hb : b ≠ p := fun z => by subst z; rw [hn] at this; cases this
    rw [upd_ne hb]; exact this
  h := a.h
  s := fun b u q => by
    by_cases hb : b = p
    · subst hb; rw [upd_same] at q; cases q; exact e
    · rw [upd_ne hb] at q; exact a.s b u q
  n := fun b u e1 e2 e3 => by rw [upd_ne (ne_of_none e2 hp)]; exact a.n b u e1 e2 e3
theorem same_upd {p : Addr} {o : HO} (hn : F p = none) : Same F (upd F p o) := fun b u e => by
  rw [upd_ne (ne_of_none e hn)]; exact e

/-- a slot: nothing known, a frozen value, an own list or dict -/
inductive SV where
  | unk | fro (d : D) | own (d : D)
  deriving Inhabited
abbrev DS := List SV

structure SR (K : PySem.W.Frag) (F0 H0 F H : Hp) (σ : St) (δ : DS) : Prop where
  ext : Ext F0 H0 F H
  len : σ.length = δ.length
  fro : ∀ (i : Nat) (d : D), δ[i]? = some (SV.fro d) → ∃ v, σ[i]? = some (some v) ∧ Rp K F v d
  own : ∀ (i : Nat) (d : D), δ[i]? = some (SV.own d) → ∃ a o, σ[i]? = some (some (V.ref a)) ∧ H a = some o ∧ F a = none ∧ H0 a = none ∧ RpO K F o d
  nt : ∀ (i : Nat) (d : D), δ[i]? = some (SV.own d) → isOwnD d = true
  dis : ∀ (i j : Nat) (a : Addr) (d e : D), δ[i]? = some (SV.own d) → δ[j]? = some (SV.own e) → σ[i]? = some (some (V.ref a)) → σ[j]? = some (some (V.ref a)) → i = j

variable {σ : St} {δ : DS}
theorem SR.up (S : SR K F0 H0 F H σ δ) (x : Ext F H F' H') : SR K F0 H0 F' H' σ δ where
  ext := S.ext.trans x
  len := S.len
  fro := fun i d e => by
    obtain ⟨v, h1, h2⟩ := S.fro i d e
    exact ⟨v, h1, h2.mono x.f⟩
  own := fun i d e => by
    obtain ⟨a, o, h1, h2, h3, h4, h5⟩ := S.own i d e
    exact ⟨a, o, h1, x.h a o h2, x.n a o h3 h2 (tupO_own h5 (S.nt i d e)), h4, h5.mono x.f⟩
  nt := S.nt
  dis := S.dis
theorem SR.lt (S : SR K F0 H0 F H σ δ) {i : Nat} {s : SV} (h : δ[i]? = some s) : i < σ.length := by
  rw [S.len]; exact (List.getElem?_eq_some_iff.mp h).1
theorem set_get {α : Type} {l : List α} {i j : Nat} {x y : α} (h : (l.set i x)[j]? = some y) : (i = j ∧ y = x) ∨ (i ≠ j ∧ l[j]? = some y) := by
  by_cases e : i = j
  · subst e
    by_cases hl : i < l.length
    · rw [List.getElem?_set_self hl] at h; cases h; exact .inl ⟨rfl, rfl⟩
    · rw [List.set_eq_of_length_le (by omega)] at h
      exact absurd (List.getElem?_eq_some_iff.mp h).1 hl
  · rw [List.getElem?_set_ne e] at h; exact .inr ⟨e, h⟩
/-- a frozen value at a slot -/
theorem SR.set (S : SR K F0 H0 F H σ δ) {i : Nat} {v : V} {d : D} (r : Rp K F v d) : SR K F0 H0 F H (σ.set i (some v)) (δ.set i (SV.fro d)) where
  ext := S.ext
  len := by rw [List.length_set, List.length_set]; exact S.len
  fro := fun j e h => by
    rcases set_get h with ⟨rfl, q⟩ | ⟨ne, q⟩
    · cases q
      have hl : i < σ.length := by
        have := (List.getElem?_eq_some_iff.mp h).1
        rw [List.length_set, ← S.len] at this; exact this
      exact ⟨v, List.getElem?_set_self hl, r⟩
    · obtain ⟨w, h1, h2⟩ := S.fro j e q
      exact ⟨w, by rw [List.getElem?_set_ne ne]; exact h1, h2⟩
  own := fun j e h => by
    rcases set_get h with ⟨rfl, q⟩ | ⟨ne, q⟩
    · cases q
    · obtain ⟨a, o, h1, h2⟩ := S.own j e q
      exact ⟨a, o, by rw [List.getElem?_set_ne ne]; exact h1, h2⟩
  nt := fun j e h => by
    rcases set_get h with ⟨rfl, q⟩ | ⟨ne, q⟩
    · cases q
    · exact S.nt j e q
  dis := fun j k a d e h1 h2 g1 g2 => by
    rcases set_get h1 with ⟨rfl, q1⟩ | ⟨n1, q1⟩
    · cases q1
    rcases set_get h2 with ⟨rfl, q2⟩ | ⟨n2, q2⟩
    · cases q2
    rw [List.getElem?_set_ne n1] at g1
    rw [List.getElem?_set_ne n2] at g2
    exact S.dis j k a d e q1 q2 g1 g2
/-- a slot forgotten -/
theorem SR.wipe (S : SR K F0 H0 F H σ δ) (i : Nat) : SR K F0 H0 F H (σ.set i none) (δ.set i SV.unk) where
  ext := S.ext
  len := by rw [List.length_set, List.length_set]; exact S.len
  fro := fun j e h => by
    rcases set_get h with ⟨rfl, q⟩ | ⟨ne, q⟩
    · cases q
    · obtain ⟨w, h1, h2⟩ := S.fro j e q
      exact ⟨w, by rw [List.getElem?_set_ne ne]; exact h1, h2⟩
  own := fun j e h => by
    rcases set_get h with ⟨rfl, q⟩ | ⟨ne, q⟩
    · cases q
    · obtain ⟨a, o, h1, h2⟩ := S.own j e q
      exact ⟨a, o, by rw [List.getElem?_set_ne ne]; exact h1, h2⟩
  nt := fun j e h => by
    rcases set_get h with ⟨rfl, q⟩ | ⟨ne, q⟩
    · cases q
    · exact S.nt j e q
  dis := fun j k a d e h1 h2 g1 g2 => by
    rcases set_get h1 with ⟨rfl, q1⟩ | ⟨n1, q1⟩
    · cases q1
    rcases set_get h2 with ⟨rfl, q2⟩ | ⟨n2, q2⟩
    · cases q2
    rw [List.getElem?_set_ne n1] at g1
    rw [List.getElem?_set_ne n2] at g2
    exact S.dis j k a d e q1 q2 g1 g2
/-- a new own thing at a slot: it came behind H -/
theorem SR.setOwn (S : SR K F0 H0 F H σ δ) {F' H' : Hp} (x : Ext F H F' H') {i : Nat} {a : Addr} {o : HO} {d : D} (hn : H a = none) (ha : H' a = some o) (hf : F' a = none) (r : RpO K F' o d) (hd : isOwnD d = true) :
    SR K F0 H0 F' H' (σ.set i (some (.ref a))) (δ.set i (SV.own d)) where
  ext := S.ext.trans x
  len := by rw [List.length_set, List.length_set]; exact S.len
  fro := fun j e h => by
    rcases set_get h with ⟨rfl, q⟩ | ⟨ne, q⟩
    · cases q
    · obtain ⟨w, h1, h2⟩ := (S.up x).fro j e q
      exact ⟨w, by rw [List.getElem?_set_ne ne]; exact h1, h2⟩
  own := fun j e h => by
    rcases set_get h with ⟨rfl, q⟩ | ⟨ne, q⟩
    · cases q
      have hl : i < σ.length := by
        have := (List.getElem?_eq_some_iff.mp h).1
        rw [List.length_set, ← S.len] at this; exact this
      refine ⟨a, o, List.getElem?_set_self hl, ha, hf, ?_, r⟩
      cases q : H0 a with
      | none => rfl
      | some u => have := S.ext.h a u q; rw [hn] at this; cases this
    · obtain ⟨b, u, h1, h2⟩ := (S.up x).own j e q
      exact ⟨b, u, by rw [List.getElem?_set_ne ne]; exact h1, h2⟩
  nt := fun j e h => by
    rcases set_get h with ⟨rfl, q⟩ | ⟨ne, q⟩
    · cases q; exact hd
    · exact S.nt j e q
  dis := fun j k b d e h1 h2 g1 g2 => by
    have key : ∀ (j : Nat) (d : D), δ[j]? = some (SV.own d) → σ[j]? = some (some (V.ref a)) → False := fun j d q g => by
      obtain ⟨b, u, z1, z2, _⟩ := S.own j d q
      rw [g] at z1; cases z1
      rw [hn] at z2; cases z2
    rcases set_get h1 with ⟨rfl, q1⟩ | ⟨n1, q1⟩
    · rcases set_get h2 with ⟨e2, q2⟩ | ⟨n2, q2⟩
      · exact e2
      · exfalso
        have hl : i < σ.length := by
          have := (List.getElem?_eq_some_iff.mp h1).1
          rw [List.length_set, ← S.len] at this; exact this
        rw [List.getElem?_set_self hl] at g1
        cases g1
        rw [List.getElem?_set_ne n2] at g2
        exact key k e q2 g2
    · rcases set_get h2 with ⟨rfl, q2⟩ | ⟨n2, q2⟩
      · exfalso
        have hl : i < σ.length := by
          have := (List.getElem?_eq_some_iff.mp h2).1
          rw [List.length_set, ← S.len] at this; exact this
        rw [List.getElem?_set_self hl] at g2
        cases g2
        rw [List.getElem?_set_ne n1] at g1
        exact key j d q1 g1
      · rw [List.getElem?_set_ne n1] at g1
        rw [List.getElem?_set_ne n2] at g2
        exact S.dis j k b d e q1 q2 g1 g2
/-- an own thing is changed -/
theorem SR.change (S : SR K F0 H0 F H σ δ) {i : Nat} {a : Addr} {d d' : D} {o' : HO} (hi : δ[i]? = some (SV.own d)) (ha : σ[i]? = some (some (V.ref a))) (r : RpO K F o' d') (hd : isOwnD d' = true) :
    SR K F0 H0 F (upd H a o') σ (δ.set i (SV.own d')) := by
  obtain ⟨a', o, h1, h2, h3, h4, h5⟩ := S.own i d hi
  rw [ha] at h1; cases h1
  refine ⟨⟨S.ext.f, fun b u e => ?_, fun b u e => ?_, fun b u e1 e2 e3 => S.ext.n b u e1 e2 e3⟩, by rw [List.length_set]; exact S.len, fun j e h => ?_, fun j e h => ?_, fun j e h => ?_, fun j k b d1 e h1 h2 g1 g2 => ?_⟩
  · rw [upd_ne (fun z => by subst z; rw [h4] at e; cases e)]; exact S.ext.h b u e
  · rw [upd_ne (fun z => by subst z; rw [h3] at e; cases e)]; exact S.ext.s b u e
  · rcases set_get h with ⟨rfl, q⟩ | ⟨ne, q⟩
    · cases q
    · exact S.fro j e q
  · rcases set_get h with ⟨rfl, q⟩ | ⟨ne, q⟩
    · cases q
      exact ⟨a, o', ha, upd_same, h3, h4, r⟩
    · obtain ⟨b, u, z1, z2, z3⟩ := S.own j e q
      have hb : b ≠ a := fun z => ne (by subst z; exact S.dis i j b d e hi q ha z1)
      exact ⟨b, u, z1, by rw [upd_ne hb]; exact z2, z3⟩
  · rcases set_get h with ⟨rfl, q⟩ | ⟨ne, q⟩
    · cases q; exact hd
    · exact S.nt j e q
  · have o1 : ∃ d1', δ[j]? = some (SV.own d1') := by
      rcases set_get h1 with ⟨rfl, q⟩ | ⟨_, q⟩
      · exact ⟨_, hi⟩
      · exact ⟨_, q⟩
    have o2 : ∃ d1', δ[k]? = some (SV.own d1') := by
      rcases set_get h2 with ⟨rfl, q⟩ | ⟨_, q⟩
      · exact ⟨_, hi⟩
      · exact ⟨_, q⟩
    obtain ⟨_, o1⟩ := o1
    obtain ⟨_, o2⟩ := o2
    exact S.dis j k b _ _ o1 o2 g1 g2
/-- an own thing is frozen -/
theorem SR.freeze (S : SR K F0 H0 F H σ δ) {i : Nat} {d : D} (hi : δ[i]? = some (SV.own d)) :
    ∃ F', Same F F' ∧ SR K F0 H0 F' H σ (δ.set i (SV.fro d)) := by
  obtain ⟨a, o, h1, h2, h3, h4, h5⟩ := S.own i d hi
  have sm : Same F (upd F a o) := same_upd h3
  refine ⟨upd F a o, sm, ⟨⟨fun b u e => sm b u (S.ext.f b u e), S.ext.h, fun b u e => ?_, fun b u e1 e2 e3 => ?_⟩, by rw [List.length_set]; exact S.len, fun j e h => ?_, fun j e h => ?_, fun j e h => ?_, fun j k b d1 e q1 q2 g1 g2 => ?_⟩⟩
  · by_cases hb : b = a
    · subst hb; rw [upd_same] at e; cases e; exact h2
    · rw [upd_ne hb] at e; exact S.ext.s b u e
  · have hb : b ≠ a := fun z => by subst z; rw [h4] at e2; cases e2
    rw [upd_ne hb]; exact S.ext.n b u e1 e2 e3
  · rcases set_get h with ⟨rfl, q⟩ | ⟨ne, q⟩
    · cases q
      exact ⟨.ref a, h1, .obj upd_same (h5.mono sm)⟩
    · obtain ⟨v, z1, z2⟩ := S.fro j e q
      exact ⟨v, z1, z2.mono sm⟩
  · rcases set_get h with ⟨rfl, q⟩ | ⟨ne, q⟩
    · cases q
    · obtain ⟨b, u, z1, z2, z3, z4, z5⟩ := S.own j e q
      have hb : b ≠ a := fun z => ne (by subst z; exact S.dis i j b d e hi q h1 z1)
      exact ⟨b, u, z1, z2, by rw [upd_ne hb]; exact z3, z4, z5.mono sm⟩
  · rcases set_get h with ⟨rfl, q⟩ | ⟨ne, q⟩
    · cases q
    · exact S.nt j e q
  · rcases set_get q1 with ⟨rfl, q⟩ | ⟨n1, q1⟩
    · cases q
    rcases set_get q2 with ⟨rfl, q⟩ | ⟨n2, q2⟩
    · cases q
    exact S.dis j k b d1 e q1 q2 g1 g2
/-- a tuple may be frozen at any time -/
theorem Ext.tup {a : Addr} {xs : List V} (s : Same F H) (e : H a = some (.tup xs)) : ∃ F', Ext F H F' H ∧ F' a = some (.tup xs) := by
  cases q : F a with
  | some o =>
    have := s a o q
    rw [e] at this; cases this
    exact ⟨F, Ext.refl s, q⟩
  | none =>
    refine ⟨upd F a (.tup xs), ⟨same_upd q, fun _ _ e => e, fun b u h => ?_, fun b u e1 e2 e3 => ?_⟩, upd_same⟩
    · by_cases hb : b = a
      · subst hb; rw [upd_same] at h; cases h; exact e
      · rw [upd_ne hb] at h; exact s b u h
    · by_cases hb : b = a
      · subst hb; rw [e] at e2; cases e2; cases e3
      · rw [upd_ne hb]; exact e1
end
end DL

namespace DL
open PySem PySem.Spec L2

structure Cc where
  K : PySem.W.Frag
  F0 : Hp
  H0 : Hp
abbrev M (α : Type) := DS → Option α

/-- an expression: its value is frozen behind -/
def Ex (c : Cc) (t : TE) (m : M D) : Prop := ∀ (δ : DS) (σ : St) (F H : Hp) (Q : VK) (d : D), SR c.K c.F0 c.H0 F H σ δ → m δ = some d →
  (∀ v F' H', Ext F H F' H' → Rp c.K F' v d → Q v H') → t σ H Q
/-- its own parts are frozen, itself perhaps not -/
def RB (K : PySem.W.Frag) (F H : Hp) (v : V) (d : D) : Prop := Rp K F v d ∨ ∃ a o, v = .ref a ∧ H a = some o ∧ RpO K F o d
inductive RBL (K : PySem.W.Frag) (F H : Hp) : List V → List D → Prop
  | nil : RBL K F H [] []
  | cons {v : V} {vs : List V} {d : D} {ds : List D} : RB K F H v d → RBL K F H vs ds → RBL K F H (v :: vs) (d :: ds)
theorem RB.h {K : PySem.W.Frag} {F H : Hp} {v : V} {d : D} (r : RB K F H v d) (s : Same F H) : Rp K H v d := by
  rcases r with r | ⟨a, o, rfl, h, r⟩
  · exact r.mono s
  · exact .obj h (r.mono s)
theorem RB.up {K : PySem.W.Frag} {F H F' H' : Hp} {v : V} {d : D} (r : RB K F H v d) (x : Ext F H F' H') : RB K F' H' v d := by
  rcases r with r | ⟨a, o, rfl, h, r⟩
  · exact .inl (r.mono x.f)
  · exact .inr ⟨a, o, rfl, x.h _ _ h, r.mono x.f⟩
theorem RBL.h {K : PySem.W.Frag} {F H : Hp} (s : Same F H) : ∀ {v : List V} {d : List D}, RBL K F H v d → RpL K H v d
  | _, _, .nil => .nil
  | _, _, .cons r t => .cons (r.h s) (RBL.h s t)
theorem RBL.of {K : PySem.W.Frag} {F H : Hp} : ∀ {v : List V} {d : List D}, RpL K F v d → RBL K F H v d
  | _, _, .nil => .nil
  | _, _, .cons r t => .cons (.inl r) (RBL.of t)
/-- .. its value is looked at alone -/
def Bx (c : Cc) (t : TE) (m : M D) : Prop := ∀ (δ : DS) (σ : St) (F H : Hp) (Q : VK) (d : D), SR c.K c.F0 c.H0 F H σ δ → m δ = some d →
  (∀ v F' H', Ext F H F' H' → RB c.K F' H' v d → Q v H') → t σ H Q
/-- .. its value is a new thing -/
def Ox (c : Cc) (t : TE) (m : M D) : Prop := ∀ (δ : DS) (σ : St) (F H : Hp) (Q : VK) (d : D), SR c.K c.F0 c.H0 F H σ δ → m δ = some d →
  (∀ a o F' H', Ext F H F' H' → H a = none → H' a = some o → F' a = none → RpO c.K F' o d → Q (.ref a) H') → t σ H Q
def Ax (c : Cc) (t : TA) (m : M (List D)) : Prop := ∀ (δ : DS) (σ : St) (F H : Hp) (Q : List V → Hp → Prop) (ds : List D), SR c.K c.F0 c.H0 F H σ δ → m δ = some ds →
  (∀ vs F' H', Ext F H F' H' → RpL c.K F' vs ds → Q vs H') → t σ H Q
def AB (c : Cc) (t : TA) (m : M (List D)) : Prop := ∀ (δ : DS) (σ : St) (F H : Hp) (Q : List V → Hp → Prop) (ds : List D), SR c.K c.F0 c.H0 F H σ δ → m δ = some ds →
  (∀ vs F' H', Ext F H F' H' → RBL c.K F' H' vs ds → Q vs H') → t σ H Q
def Tx (c : Cc) (t : TT) (m : M Bool) : Prop := ∀ (δ : DS) (σ : St) (F H : Hp) (Q : Bool → Hp → Prop) (b : Bool), SR c.K c.F0 c.H0 F H σ δ → m δ = some b →
  (∀ F' H', Ext F H F' H' → Q b H') → t σ H Q

theorem Ext.sm {F H F' H' : Hp} (x : Ext F H F' H') : Same F' H' := x.s
section
variable {c : Cc} {ta tb tc : TE} {ma mb mc : M D}
theorem Ex.b (h : Ex c ta ma) : Bx c ta ma := fun δ σ F H Q d S e k => h δ σ F H Q d S e fun v F' H' x r => k v F' H' x (.inl r)
theorem Ox.x (h : Ox c ta ma) : Ex c ta ma := fun δ σ F H Q d S e k => h δ σ F H Q d S e fun a o F' H' x hn ha hf r =>
  k (.ref a) (upd F' a o) H' (x.freeze hn ha hf) (.obj upd_same (r.mono (same_upd hf)))
theorem Ox.b (h : Ox c ta ma) : Bx c ta ma := h.x.b
theorem SR.sFH {K : PySem.W.Frag} {F0 H0 F H : Hp} {σ : St} {δ : DS} (S : SR K F0 H0 F H σ δ) : Same F H := S.ext.s

/-! names, constants -/
def mFro (i : Nat) : M D := fun δ => match δ[i]? with
  | some (SV.fro d) => some d
  | _ => none
def mAny (i : Nat) : M D := fun δ => match δ[i]? with
  | some (SV.fro d) => some d
  | some (SV.own d) => some d
  | _ => none
theorem ex_var (i : Nat) : Ex c (tVar i) (mFro i) := fun δ σ F H Q d S e k => by
  unfold mFro at e
  split at e
  · rename_i d' h; cases e
    obtain ⟨v, h1, h2⟩ := S.fro i _ h
    exact ⟨v, h1, k v F H (Ext.refl S.sFH) h2⟩
  · cases e
theorem bx_var (i : Nat) : Bx c (tVar i) (mAny i) := fun δ σ F H Q d S e k => by
  unfold mAny at e
  split at e
  · rename_i d' h; cases e
    obtain ⟨v, h1, h2⟩ := S.fro i _ h
    exact ⟨v, h1, k v F H (Ext.refl S.sFH) (.inl h2)⟩
  · rename_i d' h; cases e
    obtain ⟨a, o, h1, h2, h3, h4, h5⟩ := S.own i _ h
    exact ⟨_, h1, k _ F H (Ext.refl S.sFH) (.inr ⟨a, o, rfl, h2, h5⟩)⟩
  · cases e
def mC (d : D) : M D := fun _ => some d
theorem ex_c {v : V} {d : D} (r : ∀ F, Rp c.K F v d) : Ex c (tC v) (mC d) := fun δ σ F H Q d' S e k => by
  cases e
  exact k v F H (Ext.refl S.sFH) (r F)
theorem ex_int (i : Int) : Ex c (tC (.int i)) (mC (.int i)) := ex_c fun _ => .int i
theorem ex_bl (b : Bool) : Ex c (tC (.bl b)) (mC (.bl b)) := ex_c fun _ => .bl b
theorem ex_non : Ex c (tC .non) (mC .non) := ex_c fun _ => .non
theorem ex_str (x : Str) : Ex c (tC (.str x)) (mC (.str x)) := ex_c fun _ => .str x
theorem ex_ty (x : String) : Ex c (tC (.ty x)) (mC (.ty x)) := ex_c fun _ => .ty x

/-! two-place operations -/
def OpB (c : Cc) (r : R2) (f : D → D → Option D) : Prop := ∀ (F H : Hp) (x y : V) (d e z : D) (Q : VK), Same F H → Rp c.K H x d → Rp c.K H y e → f d e = some z →
  (∀ v F' H', Ext F H F' H' → Rp c.K F' v z → Q v H') → r x y H Q
def OpF (c : Cc) (r : R2) (f : D → D → Option D) : Prop := ∀ (F H : Hp) (x y : V) (d e z : D) (Q : VK), Same F H → Rp c.K F x d → Rp c.K F y e → f d e = some z →
  (∀ v F' H', Ext F H F' H' → Rp c.K F' v z → Q v H') → r x y H Q
theorem OpB.f {r : R2} {f : D → D → Option D} (h : OpB c r f) : OpF c r f := fun F H x y d e z Q s r1 r2 => h F H x y d e z Q s (r1.mono s) (r2.mono s)
def m2 (f : D → D → Option D) (ma mb : M D) : M D := fun δ => (ma δ).bind fun x => (mb δ).bind fun y => f x y
theorem m2_some {f : D → D → Option D} {ma mb : M D} {δ : DS} {z : D} (h : m2 f ma mb δ = some z) : ∃ x y, ma δ = some x ∧ mb δ = some y ∧ f x y = some z := by
  unfold m2 at h
  obtain ⟨x, h1, h⟩ := Option.bind_eq_some_iff.mp h
  obtain ⟨y, h2, h⟩ := Option.bind_eq_some_iff.mp h
  exact ⟨x, y, h1, h2, h⟩
theorem ex_op {r : R2} {f : D → D → Option D} (h : OpB c r f) (ha : Bx c ta ma) (hb : Bx c tb mb) : Ex c (tOp r ta tb) (m2 f ma mb) := fun δ σ F H Q z S e k => by
  obtain ⟨d1, d2, e1, e2, e3⟩ := m2_some e
  refine ha δ σ F H _ d1 S e1 fun x F1 H1 x1 r1 => ?_
  refine hb δ σ F1 H1 _ d2 (S.up x1) e2 fun y F2 H2 x2 r2 => ?_
  exact h F2 H2 x y d1 d2 z Q x2.s ((r1.up x2).h x2.s) (r2.h x2.s) e3 fun v F3 H3 x3 r3 => k v F3 H3 ((x1.trans x2).trans x3) r3
theorem ex_opF {r : R2} {f : D → D → Option D} (h : OpF c r f) (ha : Ex c ta ma) (hb : Ex c tb mb) : Ex c (tOp r ta tb) (m2 f ma mb) := fun δ σ F H Q z S e k => by
  obtain ⟨d1, d2, e1, e2, e3⟩ := m2_some e
  refine ha δ σ F H _ d1 S e1 fun x F1 H1 x1 r1 => ?_
  refine hb δ σ F1 H1 _ d2 (S.up x1) e2 fun y F2 H2 x2 r2 => ?_
  exact h F2 H2 x y d1 d2 z Q x2.s (r1.mono x2.f) r2 e3 fun v F3 H3 x3 r3 => k v F3 H3 ((x1.trans x2).trans x3) r3

theorem rp_int {F : Hp} {v : V} {i : Int} (h : Rp K F v (.int i)) : v = .int i := by
  cases h with
  | int => rfl
  | obj _ r => cases r
theorem rp_bl {F : Hp} {v : V} {i : Bool} (h : Rp K F v (.bl i)) : v = .bl i := by
  cases h with
  | bl => rfl
  | obj _ r => cases r
theorem rp_str {F : Hp} {v : V} {i : Str} (h : Rp K F v (.str i)) : v = .str i := by
  cases h with
  | str => rfl
  | obj _ r => cases r
theorem rp_ty {F : Hp} {v : V} {i : String} (h : Rp K F v (.ty i)) : v = .ty i := by
  cases h with
  | ty => rfl
  | obj _ r => cases r
theorem rp_non {F : Hp} {v : V} (h : Rp K F v .non) : v = .non := by
  cases h with
  | non => rfl
  | obj _ r => cases r
theorem rp_cst {F : Hp} {v : V} {a : Addr} (h : Rp K F v (.cst a)) : v = .ref a := by
  cases h with
  | cst => rfl
  | obj _ r => cases r
theorem rp_lst {F : Hp} {v : V} {ds : List D} (h : Rp K F v (.lst ds)) : ∃ a xs, v = .ref a ∧ F a = some (.lst xs) ∧ RpL K F xs ds := by
  cases h with
  | obj e r =>
    cases r with
    | lst r => exact ⟨_, _, rfl, e, r⟩
theorem rp_tup {F : Hp} {v : V} {ds : List D} (h : Rp K F v (.tup ds)) : ∃ a xs, v = .ref a ∧ F a = some (.tup xs) ∧ RpL K F xs ds := by
  cases h with
  | obj e r =>
    cases r with
    | tup r => exact ⟨_, _, rfl, e, r⟩
theorem rp_ktup {F : Hp} {v : V} {ds : List D} (h : Rp K F v (.ktup ds)) : ∃ a xs, v = .ref a ∧ SqT K F a xs ∧ RpL K F xs ds := by
  cases h with
  | tupK h r => exact ⟨_, _, rfl, h _, r⟩
  | obj e r => cases r
theorem rp_ftup {F : Hp} {v : V} {ds : List D} (h : Rp K F v (.ftup ds)) : ∃ a ob xs, v = .ref a ∧ F a = some (.frz ob (.tup xs)) ∧ ob.cls = .type "tuple" ∧ ob.dict = none ∧ RpL K F xs ds := by
  cases h with
  | obj e r =>
    cases r with
    | ftup e1 e2 r => exact ⟨_, _, _, rfl, e, e1, e2, r⟩
theorem sqt_frz {F : Hp} {a : Addr} {ob : Obj} {xs : List V} (h : F a = some (.frz ob (.tup xs))) : SqT K F a xs := .inl (.inr ⟨_, h⟩)
theorem rp_ins {F : Hp} {v : V} {C : Addr} {ns : List Str} {ds : List D} (h : Rp K F v (.ins C ns ds)) : ∃ a dx fs, v = .ref a ∧ F a = some (.ins C dx fs) ∧ fs.map (·.1) = ns ∧ RpL K F (fs.map (·.2)) ds := by
  cases h with
  | obj e r =>
    cases r with
    | ins e2 r => exact ⟨_, _, _, rfl, e, e2, r⟩
theorem rp_dK {F : Hp} {v : V} {ks vs : List D} (h : Rp K F v (.dct false ks vs)) : ∃ a, ∃ kvs : List (Key × V), v = .ref a ∧ F a = some (.dK kvs) ∧ kvs.map (fun p => kD p.1) = ks ∧ RpL K F (kvs.map (·.2)) vs := by
  cases h with
  | obj e r =>
    cases r with
    | dK e2 r => exact ⟨_, _, rfl, e, e2, r⟩
theorem rp_dT {F : Hp} {v : V} {ks vs : List D} (h : Rp K F v (.dct true ks vs)) : ∃ a, ∃ kvs : List (List Key × V), v = .ref a ∧ F a = some (.dT kvs) ∧ kvs.map (fun p => D.tup (p.1.map kD)) = ks ∧ RpL K F (kvs.map (·.2)) vs := by
  cases h with
  | obj e r =>
    cases r with
    | dT e2 r => exact ⟨_, _, rfl, e, e2, r⟩
theorem same_seqT {K : PySem.W.Frag} {H H' : Hp} {a : Addr} {xs : List V} (e : Same H H') (h : SqT K H a xs) : SqT K H' a xs := by
  rcases h with (h | ⟨o, h⟩) | h
  · exact .inl (.inl (e _ _ h))
  · exact .inl (.inr ⟨o, e _ _ h⟩)
  · exact .inr h

/-! ints -/
def fI (C : Int → Int → Bool) (g : Int → Int → Int) : D → D → Option D
  | .int i, .int j => if C i j then some (.int (g i j)) else none
  | _, _ => none
def fB (g : Int → Int → Bool) : D → D → Option D
  | .int i, .int j => some (.bl (g i j))
  | _, _ => none
theorem op_rI0 {g : Int → Int → Int} : OpB c (rI0 fun i j => .int (g i j)) (fI (fun _ _ => true) g) := fun F H x y d e z Q s r1 r2 h k => by
  unfold fI at h
  split at h
  · cases h
    obtain rfl := rp_int r1
    obtain rfl := rp_int r2
    exact ⟨_, _, rfl, rfl, k _ F H (Ext.refl s) (.int _)⟩
  · cases h
theorem op_rI {C : Int → Int → Prop} {Cb : Int → Int → Bool} (hC : ∀ i j, Cb i j = true → C i j) {g : Int → Int → Int} : OpB c (rI C fun i j => .int (g i j)) (fI Cb g) := fun F H x y d e z Q s r1 r2 h k => by
  unfold fI at h
  split at h
  · split at h
    · cases h
      obtain rfl := rp_int r1
      obtain rfl := rp_int r2
      exact ⟨_, _, rfl, rfl, hC _ _ (by assumption), k _ F H (Ext.refl s) (.int _)⟩
    · cases h
  · cases h
theorem op_rB {g : Int → Int → Bool} : OpB c (rI0 fun i j => .bl (g i j)) (fB g) := fun F H x y d e z Q s r1 r2 h k => by
  unfold fB at h
  split at h
  · cases h
    obtain rfl := rp_int r1
    obtain rfl := rp_int r2
    exact ⟨_, _, rfl, rfl, k _ F H (Ext.refl s) (.bl _)⟩
  · cases h
def cMul (i j : Int) : Bool := (decide (-(2 ^ 64) < i) && decide (i < 2 ^ 64)) || (decide (-(2 ^ 64) < j) && decide (j < 2 ^ 64))
theorem cMul_ok (i j : Int) (h : cMul i j = true) : CMul i j := by
  unfold cMul at h
  simp only [Bool.or_eq_true, Bool.and_eq_true, decide_eq_true_eq] at h
  exact h
def cDiv (i j : Int) : Bool := decide (0 < j) && decide (j < 1073741824)
theorem cDiv_ok (i j : Int) (h : cDiv i j = true) : CDiv i j := by
  unfold cDiv at h
  simp only [Bool.and_eq_true, decide_eq_true_eq] at h
  exact h
def cPos (_ j : Int) : Bool := decide (0 < j)
theorem cPos_ok (i j : Int) (h : cPos i j = true) : 0 < j := of_decide_eq_true h

/-! == of data -/
mutual
def D.py : D → Option PyData
  | .non => some .none
  | .bl b => some (.bool b)
  | .int i => some (.int i)
  | .str x => some (.str x)
  | .tup ds => (D.pys ds).map .tuple
  | .ktup ds => (D.pys ds).map .tuple
  | .ftup ds => (D.pys ds).map .tuple
  | .lst ds => (D.pys ds).map .list
  | _ => none
def D.pys : List D → Option (List PyData)
  | [] => some []
  | d :: ds => (D.py d).bind fun p => (D.pys ds).map fun ps => p :: ps
end
mutual
theorem D.py_ok {K : PySem.W.Frag} {H : Hp} : ∀ {d : D} {v : V} {p : PyData}, Rp K H v d → d.py = some p → Dp K H v p
  | .non, v, p, r, h => by cases h; obtain rfl := rp_non r; exact .non
  | .bl b, v, p, r, h => by cases h; obtain rfl := rp_bl r; exact .bl _
  | .int b, v, p, r, h => by cases h; obtain rfl := rp_int r; exact .int _
  | .str b, v, p, r, h => by cases h; obtain rfl := rp_str r; exact .str _
  | .tup ds, v, p, r, h => by
    obtain ⟨ps, h1, h2⟩ := Option.map_eq_some_iff.mp (show (D.pys ds).map PyData.tuple = some p from h)
    subst h2
    obtain ⟨a, xs, rfl, hs, rl⟩ := rp_tup r
    exact .tup (SqT.of hs) (D.pys_ok rl h1)
  | .ktup ds, v, p, r, h => by
    obtain ⟨ps, h1, h2⟩ := Option.map_eq_some_iff.mp (show (D.pys ds).map PyData.tuple = some p from h)
    subst h2
    obtain ⟨a, xs, rfl, hs, rl⟩ := rp_ktup r
    exact .tup hs (D.pys_ok rl h1)
  | .ftup ds, v, p, r, h => by
    obtain ⟨ps, h1, h2⟩ := Option.map_eq_some_iff.mp (show (D.pys ds).map PyData.tuple = some p from h)
    subst h2
    obtain ⟨a, ob, xs, rfl, hs, _, _, rl⟩ := rp_ftup r
    exact .tup (sqt_frz hs) (D.pys_ok rl h1)
  | .lst ds, v, p, r, h => by
    obtain ⟨ps, h1, h2⟩ := Option.map_eq_some_iff.mp (show (D.pys ds).map PyData.list = some p from h)
    subst h2
    obtain ⟨a, xs, rfl, hs, rl⟩ := rp_lst r
    exact .lst (SqL.of hs) (D.pys_ok rl h1)
  | .ty _, _, _, _, h => by cases h
  | .cst _, _, _, _, h => by cases h
  | .dct _ _ _, _, _, _, h => by cases h
  | .ins _ _ _, _, _, _, h => by cases h
theorem D.pys_ok {K : PySem.W.Frag} {H : Hp} : ∀ {ds : List D} {vs : List V} {ps : List PyData}, RpL K H vs ds → D.pys ds = some ps → DpAll K H vs ps
  | [], vs, ps, r, h => by cases h; cases r; exact .nil
  | d :: ds, vs, ps, r, h => by
    obtain ⟨p, h1, h2⟩ := Option.bind_eq_some_iff.mp (show ((D.py d).bind fun p => (D.pys ds).map fun ps => p :: ps) = some ps from h)
    obtain ⟨qs, h3, h4⟩ := Option.map_eq_some_iff.mp h2
    subst h4
    cases r with
    | cons r1 r2 => exact .cons (D.py_ok r1 h1) (D.pys_ok r2 h3)
end
def fEq (neg : Bool) (d e : D) : Option D := d.py.bind fun p => e.py.bind fun q => if SeqAt.shaped p && SeqAt.shaped q then some (.bl (if neg then !PyData.eqv p q else PyData.eqv p q)) else none
theorem fEq_some {neg : Bool} {d e z : D} (h : fEq neg d e = some z) : ∃ p q, d.py = some p ∧ e.py = some q ∧ SeqAt.shaped p = true ∧ SeqAt.shaped q = true ∧ z = .bl (if neg then !PyData.eqv p q else PyData.eqv p q) := by
  unfold fEq at h
  obtain ⟨p, h1, h⟩ := Option.bind_eq_some_iff.mp h
  obtain ⟨q, h2, h⟩ := Option.bind_eq_some_iff.mp h
  split at h
  · rename_i hs
    simp only [Bool.and_eq_true] at hs
    cases h
    exact ⟨p, q, h1, h2, hs.1, hs.2, rfl⟩
  · cases h
theorem op_eqB : OpB c (rEqD c.K) (fEq false) := fun F H x y d e z Q s r1 r2 h k => by
  obtain ⟨p, q, h1, h2, h3, h4, rfl⟩ := fEq_some h
  exact ⟨p, q, D.py_ok r1 h1, D.py_ok r2 h2, h3, h4, k _ F H (Ext.refl s) (.bl _)⟩
theorem op_neB : OpB c (rNeD c.K) (fEq true) := fun F H x y d e z Q s r1 r2 h k => by
  obtain ⟨p, q, h1, h2, h3, h4, rfl⟩ := fEq_some h
  exact ⟨p, q, D.py_ok r1 h1, D.py_ok r2 h2, h3, h4, k _ F H (Ext.refl s) (.bl _)⟩
/-- in, not in a list of data -/
def fIn (neg : Bool) (d e : D) : Option D := d.py.bind fun p => e.py.bind fun q => match q with
  | .list ps => if SeqAt.shaped p && SeqAt.shaped (.list ps) then some (.bl (if neg then !(ps.any fun z => PyData.eqv z p) else ps.any fun z => PyData.eqv z p)) else none
  | _ => none
theorem fIn_some {neg : Bool} {d e z : D} (h : fIn neg d e = some z) : ∃ p ps, d.py = some p ∧ e.py = some (.list ps) ∧ SeqAt.shaped p = true ∧ SeqAt.shaped (.list ps) = true ∧ z = .bl (if neg then !(ps.any fun z => PyData.eqv z p) else ps.any fun z => PyData.eqv z p) := by
  unfold fIn at h
  obtain ⟨p, h1, h⟩ := Option.bind_eq_some_iff.mp h
  obtain ⟨q, h2, h⟩ := Option.bind_eq_some_iff.mp h
  split at h
  · split at h
    · rename_i hs
      simp only [Bool.and_eq_true] at hs
      cases h
      exact ⟨p, _, h1, h2, hs.1, hs.2, rfl⟩
    · cases h
  · cases h
theorem op_inB : OpB c (rInD c.K) (fIn false) := fun F H x y d e z Q s r1 r2 h k => by
  obtain ⟨p, q, h1, h2, h3, h4, rfl⟩ := fIn_some h
  exact ⟨p, q, D.py_ok r1 h1, D.py_ok r2 h2, h3, h4, k _ F H (Ext.refl s) (.bl _)⟩
theorem op_ninB : OpB c (rNotInD c.K) (fIn true) := fun F H x y d e z Q s r1 r2 h k => by
  obtain ⟨p, q, h1, h2, h3, h4, rfl⟩ := fIn_some h
  exact ⟨p, q, D.py_ok r1 h1, D.py_ok r2 h2, h3, h4, k _ F H (Ext.refl s) (.bl _)⟩
/-- in, not in a tuple or a list of flat things -/
def fV : D → Option V
  | .non => some .non
  | .bl b => some (.bl b)
  | .int i => some (.int i)
  | .str x => some (.str x)
  | _ => none
def fVs : List D → Option (List V)
  | [] => some []
  | d :: ds => (fV d).bind fun v => (fVs ds).map fun vs => v :: vs
theorem fV_ok {K : PySem.W.Frag} {H : Hp} {d : D} {v w : V} (r : Rp K H v d) (h : fV d = some w) : v = w ∧ flatV w = true := by
  cases d <;> first
    | (cases h; obtain rfl := rp_non r; exact ⟨rfl, rfl⟩)
    | (cases h; obtain rfl := rp_bl r; exact ⟨rfl, rfl⟩)
    | (cases h; obtain rfl := rp_int r; exact ⟨rfl, rfl⟩)
    | (cases h; obtain rfl := rp_str r; exact ⟨rfl, rfl⟩)
    | (cases h; done)
theorem fVs_ok {K : PySem.W.Frag} {H : Hp} : ∀ {ds : List D} {vs ws : List V}, RpL K H vs ds → fVs ds = some ws → vs = ws ∧ ws.all flatV = true
  | [], vs, ws, r, h => by cases h; cases r; exact ⟨rfl, rfl⟩
  | d :: ds, vs, ws, r, h => by
    obtain ⟨w, h1, h2⟩ := Option.bind_eq_some_iff.mp (show ((fV d).bind fun v => (fVs ds).map fun vs => v :: vs) = some ws from h)
    obtain ⟨us, h3, h4⟩ := Option.map_eq_some_iff.mp h2
    subst h4
    cases r with
    | cons r1 r2 =>
      obtain ⟨rfl, q1⟩ := fV_ok r1 h1
      obtain ⟨rfl, q2⟩ := fVs_ok r2 h3
      exact ⟨rfl, by rw [List.all_cons, q1, q2]; rfl⟩
def seqD : D → Option (List D)
  | .tup ds => some ds
  | .ktup ds => some ds
  | .ftup ds => some ds
  | .lst ds => some ds
  | _ => none
theorem seqD_ok {K : PySem.W.Frag} {H : Hp} {d : D} {v : V} {ds : List D} (r : Rp K H v d) (h : seqD d = some ds) : ∃ a xs, v = .ref a ∧ (SqL K H a xs ∨ SqT K H a xs) ∧ RpL K H xs ds := by
  cases d <;> first
    | (cases h; obtain ⟨a, xs, h1, h2, h3⟩ := rp_tup r; exact ⟨a, xs, h1, .inr (SqT.of h2), h3⟩)
    | (cases h; obtain ⟨a, xs, h1, h2, h3⟩ := rp_ktup r; exact ⟨a, xs, h1, .inr h2, h3⟩)
    | (cases h; obtain ⟨a, ob, xs, h1, h2, _, _, h3⟩ := rp_ftup r; exact ⟨a, xs, h1, .inr (sqt_frz h2), h3⟩)
    | (cases h; obtain ⟨a, xs, h1, h2, h3⟩ := rp_lst r; exact ⟨a, xs, h1, .inl (SqL.of h2), h3⟩)
    | (cases h; done)
def fInF (neg : Bool) (d e : D) : Option D := (fV d).bind fun v => (seqD e).bind fun ds => (fVs ds).map fun vs => .bl (if neg then !inV v vs else inV v vs)
theorem op_inF {neg : Bool} : OpB c (rIn c.K neg) (fInF neg) := fun F H x y d e z Q s r1 r2 h k => by
  unfold fInF at h
  obtain ⟨w, h1, h⟩ := Option.bind_eq_some_iff.mp h
  obtain ⟨ds, h2, h⟩ := Option.bind_eq_some_iff.mp h
  obtain ⟨ws, h3, h⟩ := Option.map_eq_some_iff.mp h
  subst h
  obtain ⟨a, xs, rfl, hq, rl⟩ := seqD_ok r2 h2
  obtain ⟨rfl, q1⟩ := fV_ok r1 h1
  obtain ⟨rfl, q2⟩ := fVs_ok rl h3
  exact ⟨a, xs, rfl, hq, q1, q2, k _ F H (Ext.refl s) (.bl _)⟩
end
end DL

namespace DL
open PySem PySem.Spec L2

section
variable {c : Cc} {ta tb tc : TE} {ma mb mc : M D}

/-! arguments, displays -/
def mNil : M (List D) := fun _ => some []
def mCons (m : M D) (n : M (List D)) : M (List D) := fun δ => (m δ).bind fun d => (n δ).map fun ds => d :: ds
theorem mCons_some {m : M D} {n : M (List D)} {δ : DS} {ds : List D} (h : mCons m n δ = some ds) : ∃ d es, m δ = some d ∧ n δ = some es ∧ ds = d :: es := by
  unfold mCons at h
  obtain ⟨x, h1, h⟩ := Option.bind_eq_some_iff.mp h
  obtain ⟨y, h2, h⟩ := Option.map_eq_some_iff.mp h
  exact ⟨x, y, h1, h2, h.symm⟩
theorem ax_nil : Ax c tNil mNil := fun δ σ F H Q ds S e k => by
  cases e
  exact k [] F H (Ext.refl S.sFH) .nil
theorem ax_cons {t : TA} {n : M (List D)} (ha : Ex c ta ma) (hb : Ax c t n) : Ax c (tCons ta t) (mCons ma n) := fun δ σ F H Q ds S e k => by
  obtain ⟨d, es, e1, e2, rfl⟩ := mCons_some e
  refine ha δ σ F H _ d S e1 fun x F1 H1 x1 r1 => ?_
  refine hb δ σ F1 H1 _ es (S.up x1) e2 fun ys F2 H2 x2 r2 => ?_
  exact k (x :: ys) F2 H2 (x1.trans x2) (.cons (r1.mono x2.f) r2)
theorem ab_nil : AB c tNil mNil := fun δ σ F H Q ds S e k => by
  cases e
  exact k [] F H (Ext.refl S.sFH) .nil
theorem ab_cons {t : TA} {n : M (List D)} (ha : Bx c ta ma) (hb : AB c t n) : AB c (tCons ta t) (mCons ma n) := fun δ σ F H Q ds S e k => by
  obtain ⟨d, es, e1, e2, rfl⟩ := mCons_some e
  refine ha δ σ F H _ d S e1 fun x F1 H1 x1 r1 => ?_
  refine hb δ σ F1 H1 _ es (S.up x1) e2 fun ys F2 H2 x2 r2 => ?_
  exact k (x :: ys) F2 H2 (x1.trans x2) (.cons (r1.up x2) r2)
def lenOk (ds : List D) : Bool := decide (ds.length ≤ sizeLine)
def mTup (n : M (List D)) : M D := fun δ => (n δ).bind fun ds => if lenOk ds then some (.tup ds) else none
def mLst (n : M (List D)) : M D := fun δ => (n δ).bind fun ds => if lenOk ds then some (.lst ds) else none
theorem mTup_some {n : M (List D)} {δ : DS} {z : D} (h : mTup n δ = some z) : ∃ ds, n δ = some ds ∧ ds.length ≤ sizeLine ∧ z = .tup ds := by
  unfold mTup at h
  obtain ⟨x, h1, h⟩ := Option.bind_eq_some_iff.mp h
  split at h
  · rename_i hl; cases h; exact ⟨x, h1, of_decide_eq_true hl, rfl⟩
  · cases h
theorem mLst_some {n : M (List D)} {δ : DS} {z : D} (h : mLst n δ = some z) : ∃ ds, n δ = some ds ∧ ds.length ≤ sizeLine ∧ z = .lst ds := by
  unfold mLst at h
  obtain ⟨x, h1, h⟩ := Option.bind_eq_some_iff.mp h
  split at h
  · rename_i hl; cases h; exact ⟨x, h1, of_decide_eq_true hl, rfl⟩
  · cases h
theorem ext_none {F H F' H' : Hp} (x : Ext F H F' H') {p : Addr} (h : H' p = none) : F' p = none ∧ H p = none := by
  refine ⟨?_, ?_⟩
  · cases q : F' p with
    | none => rfl
    | some o => rw [x.s p o q] at h; cases h
  · cases q : H p with
    | none => rfl
    | some o => rw [x.h p o q] at h; cases h
theorem ex_tup {t : TA} {n : M (List D)} (h : Ax c t n) : Ex c (tTup t) (mTup n) := fun δ σ F H Q z S e k => by
  obtain ⟨ds, e1, hl, rfl⟩ := mTup_some e
  refine h δ σ F H _ ds S e1 fun vs F1 H1 x1 r1 => ⟨by rw [r1.length]; exact hl, fun p hp => ?_⟩
  have x2 : Ext F1 H1 (upd F1 p (.tup vs)) (upd H1 p (.tup vs)) := Ext.laid x1.s hp
  exact k _ _ _ (x1.trans x2) (.obj upd_same (.tup (r1.mono x2.f)))
theorem ox_lst {t : TA} {n : M (List D)} (h : Ax c t n) : Ox c (tLst t) (mLst n) := fun δ σ F H Q z S e k => by
  obtain ⟨ds, e1, hl, rfl⟩ := mLst_some e
  refine h δ σ F H _ ds S e1 fun vs F1 H1 x1 r1 => ⟨by rw [r1.length]; exact hl, fun p hp => ?_⟩
  have x2 : Ext F1 H1 F1 (upd H1 p (.lst vs)) := Ext.temp x1.s hp
  exact k p _ F1 _ (x1.trans x2) (ext_none x1 hp).2 upd_same (ext_none x1 hp).1 (.lst r1)

/-! subscripts -/
theorem RB.seq {K : PySem.W.Frag} {F H : Hp} {v : V} {d : D} {ds : List D} (r : RB K F H v d) (s : Same F H) (h : seqD d = some ds) : ∃ a xs, v = .ref a ∧ (SqL K H a xs ∨ SqT K H a xs) ∧ RpL K F xs ds := by
  rcases r with r | ⟨a, o, rfl, e, r⟩
  · obtain ⟨a, xs, h1, h2, h3⟩ := seqD_ok r h
    exact ⟨a, xs, h1, h2.imp (Same.seq s) (same_seqT s), h3⟩
  · cases d <;> first
      | (cases h; cases r with | ftup _ _ r => exact ⟨a, _, rfl, .inr (sqt_frz e), r⟩)
      | (cases h; cases r with | tup r => exact ⟨a, _, rfl, .inr (SqT.of e), r⟩)
      | (cases h; cases r; done)
      | (cases h; cases r with | lst r => exact ⟨a, _, rfl, .inl (SqL.of e), r⟩)
      | (cases h; done)
def fIx (d e : D) : Option D := match e with
  | .int i => (seqD d).bind fun ds => atI ds i
  | _ => none
theorem RpL.atI {K : PySem.W.Frag} {F : Hp} {vs : List V} {ds : List D} {i : Int} {d : D} (r : RpL K F vs ds) (h : atI ds i = some d) : ∃ v, L2.atI vs i = some v ∧ Rp K F v d := by
  unfold L2.atI at h ⊢
  obtain ⟨j, h1, h2⟩ := Option.bind_eq_some_iff.mp h
  obtain ⟨v, h3, h4⟩ := r.get h2
  exact ⟨v, Option.bind_eq_some_iff.mpr ⟨j, by rw [r.length]; exact h1, h3⟩, h4⟩
def IsIx (K : PySem.W.Frag) (r : R2) : Prop := ∀ (p : Addr) (xs : List V) (i : Int) (v : V) (H : Hp) (Q : VK), (SqL K H p xs ∨ SqT K H p xs) → atI xs i = some v → Q v H → r (.ref p) (.int i) H Q
/-- e[i], e a list or a tuple -/
theorem ex_ix (ha : Bx c ta ma) (hb : Bx c tb mb) : Ex c (tOp (rIx c.K) ta tb) (m2 fIx ma mb) := fun δ σ F H Q z S e k => by
  obtain ⟨d1, d2, e1, e2, e3⟩ := m2_some e
  refine ha δ σ F H _ d1 S e1 fun x F1 H1 x1 r1 => ?_
  refine hb δ σ F1 H1 _ d2 (S.up x1) e2 fun y F2 H2 x2 r2 => ?_
  unfold fIx at e3
  split at e3
  · obtain ⟨ds, e4, e5⟩ := Option.bind_eq_some_iff.mp e3
    obtain rfl := rp_int (r2.h x2.s)
    obtain ⟨a, xs, rfl, hq, rl⟩ := (r1.up x2).seq x2.s e4
    obtain ⟨v, h1, h2⟩ := rl.atI e5
    rcases hq with hq | hq
    · exact .inl ⟨a, xs, _, v, rfl, rfl, hq, h1, k v F2 H2 (x1.trans x2) h2⟩
    · exact .inr (.inl ⟨a, xs, _, v, rfl, rfl, hq, h1, k v F2 H2 (x1.trans x2) h2⟩)
  · cases e3

/-! dicts -/
mutual
/-- equality of keys -/
def beqK : D → D → Bool
  | .int a, .int b => a == b
  | .str a, .str b => a == b
  | .tup a, .tup b => beqKs a b
  | _, _ => false
def beqKs : List D → List D → Bool
  | [], [] => true
  | a :: as, b :: bs => beqK a b && beqKs as bs
  | _, _ => false
end
theorem beqK_key (a b : Key) : beqK (kD a) (kD b) = decide (a = b) := by
  cases a with
  | inl a =>
    cases b with
    | inl b => rw [key_ll]; simp only [kD, beqK]
    | inr b => rw [key_lr]; simp only [kD, beqK]
  | inr a =>
    cases b with
    | inl b => rw [key_rl]; simp only [kD, beqK]
    | inr b =>
      rw [key_rr]; simp only [kD, beqK]
      rw [Bool.eq_iff_iff]; simp
theorem beqKs_keys : ∀ (a b : List Key), beqKs (a.map kD) (b.map kD) = decide (a = b)
  | [], [] => by simp [beqKs]
  | [], _ :: _ => by simp [beqKs]
  | _ :: _, [] => by simp [beqKs]
  | a :: as, b :: bs => by
    simp only [List.map_cons, beqKs, beqK_key, beqKs_keys as bs]
    by_cases h1 : a = b <;> by_cases h2 : as = bs <;> simp [h1, h2]
theorem beqK_tup (a b : List Key) : beqK (.tup (a.map kD)) (.tup (b.map kD)) = decide (a = b) := by
  simp only [beqK]; exact beqKs_keys a b
def dLook : List D → List D → D → Option D
  | k :: ks, v :: vs, x => if beqK k x then some v else dLook ks vs x
  | _, _, _ => none
def dPut : List D → List D → D → D → List D × List D
  | k :: ks, v :: vs, x, y => if beqK k x then (k :: ks, y :: vs) else let r := dPut ks vs x y; (k :: r.1, v :: r.2)
  | _, _, x, y => ([x], [y])
/-- the key of a dict that a value tells -/
def keyD : D → Option Key
  | .int i => some (.inl i)
  | .str x => some (.inr x)
  | _ => none
def keysD : List D → Option (List Key)
  | [] => some []
  | d :: ds => (keyD d).bind fun k => (keysD ds).map fun ks => k :: ks
theorem keyD_ok {d : D} {k : Key} (h : keyD d = some k) : d = kD k := by
  cases d <;> first
    | (cases h; rfl)
    | (cases h; done)
theorem keysD_ok : ∀ {ds : List D} {ks : List Key}, keysD ds = some ks → ds = ks.map kD
  | [], ks, h => by cases h; rfl
  | d :: ds, ks, h => by
    obtain ⟨w, h1, h2⟩ := Option.bind_eq_some_iff.mp (show ((keyD d).bind fun k => (keysD ds).map fun ks => k :: ks) = some ks from h)
    obtain ⟨us, h3, h4⟩ := Option.map_eq_some_iff.mp h2
    subst h4
    rw [keyD_ok h1, keysD_ok h3]; rfl
theorem rp_key {K : PySem.W.Frag} {F : Hp} {v : V} {k : Key} (r : Rp K F v (kD k)) : v = kV k := by
  cases k with
  | inl i => exact rp_int r
  | inr x => exact rp_str r
theorem rp_keys {K : PySem.W.Frag} {F : Hp} : ∀ {vs : List V} {ks : List Key}, RpL K F vs (ks.map kD) → vs = ks.map kV
  | vs, [], r => by cases r; rfl
  | vs, k :: ks, r => by
    cases r with
    | cons r1 r2 => rw [rp_key r1, rp_keys r2]; rfl
theorem valV_look {κ : Type} [DecidableEq κ] {K : PySem.W.Frag} {F : Hp} (g : κ → D) (hg : ∀ a b, beqK (g a) (g b) = decide (a = b)) (k : κ) : ∀ {kvs : List (κ × V)} {vs : List D}, RpL K F (kvs.map (·.2)) vs →
    (∀ d, dLook (kvs.map fun p => g p.1) vs (g k) = some d → ∃ v, valV kvs k = some v ∧ Rp K F v d) ∧ (dLook (kvs.map fun p => g p.1) vs (g k) = none → valV kvs k = none)
  | [], vs, r => by
    cases r
    exact ⟨fun d h => by simp [dLook] at h, fun _ => rfl⟩
  | (a, x) :: kvs, vs, r => by
    cases r with
    | @cons _ _ d ds r1 r2 =>
      have ih := valV_look g hg k r2
      unfold valV at ih ⊢
      simp only [List.map_cons, dLook, hg, List.find?_cons]
      by_cases h : a = k
      · simp only [h, decide_true, if_true]
        exact ⟨fun e q => by cases q; exact ⟨x, rfl, r1⟩, fun q => by cases q⟩
      · simp only [h, decide_false, Bool.false_eq_true, if_false]
        exact ih
/-- what a dict has at a key -/
def fGet (d e : D) : Option (Option D) := match d with
  | .dct false ks vs => (keyD e).map fun k => dLook ks vs (kD k)
  | .dct true ks vs => match e with
    | .tup es => (keysD es).map fun k => dLook ks vs (.tup (k.map kD))
    | _ => none
  | _ => none
theorem RB.dK {K : PySem.W.Frag} {F H : Hp} {v : V} {ks vs : List D} (r : RB K F H v (.dct false ks vs)) (s : Same F H) : ∃ a, ∃ kvs : List (Key × V), v = .ref a ∧ H a = some (.dK kvs) ∧ kvs.map (fun p => kD p.1) = ks ∧ RpL K F (kvs.map (·.2)) vs := by
  rcases r with r | ⟨a, o, rfl, e, r⟩
  · obtain ⟨a, kvs, h1, h2, h3⟩ := rp_dK r
    exact ⟨a, kvs, h1, s _ _ h2, h3⟩
  · cases r with
    | dK e2 r => exact ⟨a, _, rfl, e, e2, r⟩
theorem RB.dT {K : PySem.W.Frag} {F H : Hp} {v : V} {ks vs : List D} (r : RB K F H v (.dct true ks vs)) (s : Same F H) : ∃ a, ∃ kvs : List (List Key × V), v = .ref a ∧ H a = some (.dT kvs) ∧ kvs.map (fun p => D.tup (p.1.map kD)) = ks ∧ RpL K F (kvs.map (·.2)) vs := by
  rcases r with r | ⟨a, o, rfl, e, r⟩
  · obtain ⟨a, kvs, h1, h2, h3⟩ := rp_dT r
    exact ⟨a, kvs, h1, s _ _ h2, h3⟩
  · cases r with
    | dT e2 r => exact ⟨a, _, rfl, e, e2, r⟩
theorem get_ok {K : PySem.W.Frag} {F H : Hp} {x y : V} {d e : D} {o : Option D} (s : Same F H) (r1 : RB K F H x d) (r2 : RB K F H y e) (h : fGet d e = some o) :
    ∃ a w, x = .ref a ∧ DGet H a y w ∧ IsD H a ∧ ((∃ z v, o = some z ∧ w = some v ∧ Rp K F v z) ∨ (o = none ∧ w = none)) := by
  unfold fGet at h
  split at h
  · obtain ⟨k, h1, rfl⟩ := Option.map_eq_some_iff.mp h
    obtain ⟨a, kvs, rfl, e1, rfl, rl⟩ := r1.dK s
    obtain rfl := rp_key (by rw [← keyD_ok h1]; exact r2.h s)
    obtain ⟨z1, z2⟩ := valV_look kD beqK_key k rl
    refine ⟨a, _, rfl, DGet.k (k := k) e1, .inl ⟨kvs, .inl e1⟩, ?_⟩
    cases q : dLook (kvs.map fun p => kD p.1) _ (kD k) with
    | none => exact .inr ⟨rfl, z2 q⟩
    | some z =>
      obtain ⟨v, h2, h3⟩ := z1 z q
      exact .inl ⟨z, v, rfl, h2, h3⟩
  · split at h
    · obtain ⟨k, h1, rfl⟩ := Option.map_eq_some_iff.mp h
      obtain ⟨a, kvs, rfl, e1, rfl, rl⟩ := r1.dT s
      obtain ⟨b, xs, rfl, e2, rk⟩ := rp_tup (r2.h s)
      rw [keysD_ok h1] at rk
      obtain rfl := rp_keys rk
      obtain ⟨z1, z2⟩ := valV_look (fun k : List Key => D.tup (k.map kD)) beqK_tup k rl
      refine ⟨a, _, rfl, DGet.t (k := k) e1 e2, .inr ⟨kvs, .inl e1⟩, ?_⟩
      cases q : dLook (kvs.map fun p => D.tup (p.1.map kD)) _ (D.tup (k.map kD)) with
      | none => exact .inr ⟨rfl, z2 q⟩
      | some z =>
        obtain ⟨v, h2, h3⟩ := z1 z q
        exact .inl ⟨z, v, rfl, h2, h3⟩
    · cases h
  · cases h
end
end DL

namespace DL
open PySem PySem.Spec L2

section
variable {c : Cc} {ta tb tc : TE} {ma mb mc : M D}

/-! dicts, read -/
def fGetI (d e : D) : Option D := (fGet d e).bind id
def fHas (neg : Bool) (d e : D) : Option D := (fGet d e).map fun o => .bl (if neg then !o.isSome else o.isSome)
theorem ex_dget (ha : Bx c ta ma) (hb : Bx c tb mb) : Ex c (tDGet ta tb) (m2 fGetI ma mb) := fun δ σ F H Q z S e k => by
  obtain ⟨d1, d2, e1, e2, e3⟩ := m2_some e
  refine ha δ σ F H _ d1 S e1 fun x F1 H1 x1 r1 => ?_
  refine hb δ σ F1 H1 _ d2 (S.up x1) e2 fun y F2 H2 x2 r2 => ?_
  obtain ⟨o, h1, h2⟩ := Option.bind_eq_some_iff.mp (show (fGet d1 d2).bind id = some z from e3)
  obtain ⟨a, w, rfl, g, _, hw⟩ := get_ok x2.s (r1.up x2) r2 h1
  rcases hw with ⟨z', v, e4, e5, r⟩ | ⟨e4, _⟩
  · subst e5 e4
    cases h2
    exact ⟨a, v, rfl, g, k v F2 H2 (x1.trans x2) r⟩
  · subst e4
    cases h2
theorem ex_din (ha : Bx c ta ma) (hb : Bx c tb mb) : Ex c (tDIn ta tb) (m2 (fun e d => fHas false d e) ma mb) := fun δ σ F H Q z S e k => by
  obtain ⟨d1, d2, e1, e2, e3⟩ := m2_some e
  refine ha δ σ F H _ d1 S e1 fun x F1 H1 x1 r1 => ?_
  refine hb δ σ F1 H1 _ d2 (S.up x1) e2 fun y F2 H2 x2 r2 => ?_
  obtain ⟨o, h1, h2⟩ := Option.map_eq_some_iff.mp (show (fGet d2 d1).map (fun o => D.bl (if false then !o.isSome else o.isSome)) = some z from e3)
  subst h2
  obtain ⟨a, w, rfl, g, _, hw⟩ := get_ok x2.s r2 (r1.up x2) h1
  refine ⟨a, w, rfl, g, k _ F2 H2 (x1.trans x2) ?_⟩
  rcases hw with ⟨z', v, e4, e5, r⟩ | ⟨e4, e5⟩ <;> subst e4 e5 <;> exact .bl _
theorem ex_dnin (ha : Bx c ta ma) (hb : Bx c tb mb) : Ex c (tDNotIn ta tb) (m2 (fun e d => fHas true d e) ma mb) := fun δ σ F H Q z S e k => by
  obtain ⟨d1, d2, e1, e2, e3⟩ := m2_some e
  refine ha δ σ F H _ d1 S e1 fun x F1 H1 x1 r1 => ?_
  refine hb δ σ F1 H1 _ d2 (S.up x1) e2 fun y F2 H2 x2 r2 => ?_
  obtain ⟨o, h1, h2⟩ := Option.map_eq_some_iff.mp (show (fGet d2 d1).map (fun o => D.bl (if true then !o.isSome else o.isSome)) = some z from e3)
  subst h2
  obtain ⟨a, w, rfl, g, _, hw⟩ := get_ok x2.s r2 (r1.up x2) h1
  refine ⟨a, w, rfl, g, k _ F2 H2 (x1.trans x2) ?_⟩
  rcases hw with ⟨z', v, e4, e5, r⟩ | ⟨e4, e5⟩ <;> subst e4 e5 <;> exact .bl _
/-- d.get(k, x) -/
def m3 (f : D → D → D → Option D) (ma mb mc : M D) : M D := fun δ => (ma δ).bind fun x => (mb δ).bind fun y => (mc δ).bind fun z => f x y z
theorem m3_some {f : D → D → D → Option D} {δ : DS} {w : D} (h : m3 f ma mb mc δ = some w) : ∃ x y z, ma δ = some x ∧ mb δ = some y ∧ mc δ = some z ∧ f x y z = some w := by
  unfold m3 at h
  obtain ⟨x, h1, h⟩ := Option.bind_eq_some_iff.mp h
  obtain ⟨y, h2, h⟩ := Option.bind_eq_some_iff.mp h
  obtain ⟨z, h3, h⟩ := Option.bind_eq_some_iff.mp h
  exact ⟨x, y, z, h1, h2, h3, h⟩
def isDct : D → Bool
  | .dct _ _ _ => true
  | _ => false
def fGet2 (d e x : D) : Option D := (fGet d e).map fun o => o.getD x
theorem isD_of {K : PySem.W.Frag} {F H : Hp} {x : V} {t : Bool} {ks vs : List D} (r : RB K F H x (.dct t ks vs)) (s : Same F H) : ∃ a, x = .ref a ∧ IsD H a := by
  cases t with
  | false => obtain ⟨a, kvs, rfl, e, _⟩ := r.dK s; exact ⟨a, rfl, .inl ⟨kvs, .inl e⟩⟩
  | true => obtain ⟨a, kvs, rfl, e, _⟩ := r.dT s; exact ⟨a, rfl, .inr ⟨kvs, .inl e⟩⟩
theorem fGet_dct {d e : D} {o : Option D} (h : fGet d e = some o) : ∃ t ks vs, d = .dct t ks vs := by
  cases d with
  | dct t ks vs => exact ⟨t, ks, vs, rfl⟩
  | _ => cases h
theorem ex_dget2 (ha : Bx c ta ma) (hb : Bx c tb mb) (hc : Ex c tc mc) : Ex c (tDGet2 ta tb tc) (m3 fGet2 ma mb mc) := fun δ σ F H Q z S e k => by
  obtain ⟨d1, d2, d3, e1, e2, e3, e4⟩ := m3_some e
  obtain ⟨o, h1, h2⟩ := Option.map_eq_some_iff.mp (show (fGet d1 d2).map (fun o => o.getD d3) = some z from e4)
  subst h2
  obtain ⟨t, ks, vs, rfl⟩ := fGet_dct h1
  refine ha δ σ F H _ _ S e1 fun x F1 H1 x1 r1 => ?_
  obtain ⟨a, rfl, hd⟩ := isD_of r1 x1.s
  refine ⟨a, rfl, hd, ?_⟩
  refine hb δ σ F1 H1 _ d2 (S.up x1) e2 fun y F2 H2 x2 r2 => ?_
  refine hc δ σ F2 H2 _ d3 ((S.up x1).up x2) e3 fun w F3 H3 x3 r3 => ?_
  obtain ⟨a', u, e5, g, _, hw⟩ := get_ok x3.s ((r1.up x2).up x3) (r2.up x3) h1
  cases e5
  refine ⟨u, g, k _ F3 H3 ((x1.trans x2).trans x3) ?_⟩
  rcases hw with ⟨z', v, e4, e5, r⟩ | ⟨e4, e5⟩ <;> subst e4 e5
  · exact r
  · exact r3

/-! fields, properties -/
def fldD : List Str → List D → Str → Option D
  | n :: ns, v :: vs, f => if f = n then some v else fldD ns vs f
  | _, _, _ => none
theorem fld_ok {K : PySem.W.Frag} {F : Hp} {f : Str} {d : D} : ∀ {fs : List (Str × V)} {ds : List D}, RpL K F (fs.map (·.2)) ds → fldD (fs.map (·.1)) ds f = some d → ∃ v, fs.lookup f = some v ∧ Rp K F v d
  | [], ds, r, h => by cases r; cases h
  | (n, x) :: fs, ds, r, h => by
    cases r with
    | cons r1 r2 =>
      rw [List.map_cons] at h
      simp only [fldD] at h
      rw [List.lookup_cons]
      by_cases e : f = n
      · rw [if_pos e] at h
        cases h
        subst e
        simp only [beq_self_eq_true]
        exact ⟨x, rfl, r1⟩
      · rw [if_neg e] at h
        have : (f == n) = false := beq_eq_false_iff_ne.mpr e
        rw [this]
        exact fld_ok r2 h
theorem RB.ins {K : PySem.W.Frag} {F H : Hp} {v : V} {C : Addr} {ns : List Str} {vs : List D} (r : RB K F H v (.ins C ns vs)) (s : Same F H) : ∃ a dx fs, v = .ref a ∧ H a = some (.ins C dx fs) ∧ fs.map (·.1) = ns ∧ RpL K F (fs.map (·.2)) vs := by
  rcases r with r | ⟨a, o, rfl, e, r⟩
  · obtain ⟨a, dx, fs, h1, h2, h3, h4⟩ := rp_ins r
    exact ⟨a, dx, fs, h1, s _ _ h2, h3, h4⟩
  · cases r with
    | ins e2 r => exact ⟨a, _, _, rfl, e, e2, r⟩
def mFld (C : Addr) (f : Str) (ma : M D) : M D := fun δ => (ma δ).bind fun d => match d with
  | .ins C' ns vs => if C' = C then fldD ns vs f else none
  | _ => none
theorem mFld_some {C : Addr} {f : Str} {δ : DS} {z : D} (h : mFld C f ma δ = some z) : ∃ ns vs, ma δ = some (.ins C ns vs) ∧ fldD ns vs f = some z := by
  unfold mFld at h
  obtain ⟨x, h1, h2⟩ := Option.bind_eq_some_iff.mp h
  cases x with
  | ins C' ns vs =>
    have h3 : (if C' = C then fldD ns vs f else none) = some z := h2
    by_cases e : C' = C
    · rw [if_pos e] at h3
      subst e
      exact ⟨_, _, h1, h3⟩
    · rw [if_neg e] at h3; cases h3
  | _ => cases h2
theorem ex_fld {C : Addr} {f : Str} (cl : Cls c.K C) (na : NoAttr c.K C f) (ha : Bx c ta ma) : Ex c (tFld c.K ta f) (mFld C f ma) := fun δ σ F H Q z S e k => by
  obtain ⟨ns, vs, e1, e2⟩ := mFld_some e
  refine ha δ σ F H _ _ S e1 fun x F1 H1 x1 r1 => ?_
  obtain ⟨a, dx, fs, rfl, h1, rfl, rl⟩ := r1.ins x1.s
  obtain ⟨v, h2, h3⟩ := fld_ok rl e2
  exact ⟨a, C, dx, fs, v, rfl, h1, cl, na, h2, k v F1 H1 x1 h3⟩

/-! defs -/
/-- a def that is a function of what its arguments tell -/
def spD (K : PySem.W.Frag) (n : Nat) (r : List D → Option D) : Sp := fun vs H Q _ => ∃ (F : Hp) (ds : List D) (d : D), Same F H ∧ RpL K F vs ds ∧ ds.length = n ∧ r ds = some d ∧ ∀ v F' H', Ext F H F' H' → Rp K F' v d → Q v H'
theorem spD_len {K : PySem.W.Frag} {n : Nat} {r : List D → Option D} {vs : List V} {H : Hp} {Q : VK} {E : XK} (h : spD K n r vs H Q E) : vs.length = n := by
  obtain ⟨F, ds, d, _, rl, hl, _⟩ := h
  rw [rl.length, hl]
def mCall (n : Nat) (r : List D → Option D) (m : M (List D)) : M D := fun δ => (m δ).bind fun ds => if ds.length = n then r ds else none
theorem ex_call {t : TA} {n : Nat} {r : List D → Option D} {m : M (List D)} {E : XK} (h : Ax c t m) : Ex c (tCall (spD c.K n r) [] E t) (mCall n r m) := fun δ σ F H Q z S e k => by
  unfold mCall at e
  obtain ⟨ds, e1, e2⟩ := Option.bind_eq_some_iff.mp e
  split at e2
  · rename_i hl
    refine h δ σ F H _ ds S e1 fun vs F1 H1 x1 r1 => ?_
    show spD c.K n r (vs ++ []) H1 Q E
    rw [List.append_nil]
    exact ⟨F1, ds, z, x1.s, r1, hl, e2, fun v F2 H2 x2 r2 => k v F2 H2 (x1.trans x2) r2⟩
  · cases e2
theorem ex_prop {C : Addr} {r : List D → Option D} {E : XK} (ha : Ex c ta ma) : Ex c (tProp C (spD c.K 1 r) [] E ta) (fun δ => (ma δ).bind fun d => match d with
    | .ins C' ns vs => if C' = C then r [.ins C' ns vs] else none
    | _ => none) := fun δ σ F H Q z S e k => by
  obtain ⟨d, e1, e2⟩ := Option.bind_eq_some_iff.mp e
  split at e2
  · split at e2
    · rename_i hc; subst hc
      refine ha δ σ F H _ _ S e1 fun x F1 H1 x1 r1 => ?_
      obtain ⟨a, dx, fs, rfl, h1, _, _⟩ := rp_ins r1
      exact ⟨a, dx, fs, rfl, x1.s _ _ h1, F1, [_], z, x1.s, .cons r1 .nil, rfl, e2, fun v F2 H2 x2 r2 => k v F2 H2 (x1.trans x2) r2⟩
    · cases e2
  · cases e2
theorem ex_meth {C : Addr} {m : Str} {n : Nat} {r : List D → Option D} {E : XK} {t : TA} {mt : M (List D)} (ha : Ex c ta ma) (h : Ax c t mt) : Ex c (tMeth C m (spD c.K n r) [] E ta t) (fun δ => (ma δ).bind fun d => match d with
    | .ins C' ns vs => if C' = C then (if m ∈ ns then none else (mt δ).bind fun ds => if ds.length + 1 = n then r (.ins C' ns vs :: ds) else none) else none
    | _ => none) := fun δ σ F H Q z S e k => by
  obtain ⟨d, e1, e2⟩ := Option.bind_eq_some_iff.mp e
  split at e2
  · split at e2
    · rename_i hc; subst hc
      split at e2
      · cases e2
      rename_i hm
      obtain ⟨ds, e3, e4⟩ := Option.bind_eq_some_iff.mp e2
      split at e4
      · rename_i hl
        refine ha δ σ F H _ _ S e1 fun x F1 H1 x1 r1 => ?_
        obtain ⟨a, dx, fs, rfl, h1, h2, h3⟩ := rp_ins r1
        refine ⟨a, dx, fs, rfl, x1.s _ _ h1, ?_, ?_⟩
        · cases q : fs.lookup m with
          | none => rfl
          | some v =>
            have : m ∈ fs.map (·.1) := by
              have := List.lookup_eq_some_iff.mp q
              obtain ⟨l1, l2, e5, _⟩ := this
              rw [e5]; simp
            rw [h2] at this
            exact absurd this hm
        · refine h δ σ F1 H1 _ ds (S.up x1) e3 fun vs F2 H2 x2 r2 => ?_
          rw [List.append_nil]
          exact ⟨F2, _, z, x2.s, .cons (r1.mono x2.f) r2, by rw [List.length_cons]; exact hl, e4, fun v F3 H3 x3 r3 => k v F3 H3 ((x1.trans x2).trans x3) r3⟩
      · cases e4
    · cases e2
  · cases e2

/-! built-in functions by values -/
def CB (c : Cc) (r : List V → Hp → VK → Prop) (f : List D → Option D) : Prop := ∀ (F H : Hp) (vs : List V) (ds : List D) (z : D) (Q : VK), Same F H → RBL c.K F H vs ds → f ds = some z →
  (∀ v F' H', Ext F H F' H' → Rp c.K F' v z → Q v H') → r vs H Q
def CO (c : Cc) (r : List V → Hp → VK → Prop) (f : List D → Option D) : Prop := ∀ (F H : Hp) (vs : List V) (ds : List D) (z : D) (Q : VK), Same F H → RBL c.K F H vs ds → f ds = some z →
  (∀ a o F' H', Ext F H F' H' → H a = none → H' a = some o → F' a = none → RpO c.K F' o z → Q (.ref a) H') → r vs H Q
def mB (f : List D → Option D) (m : M (List D)) : M D := fun δ => (m δ).bind f
theorem ex_cb {r : List V → Hp → VK → Prop} {f : List D → Option D} {t : TA} {m : M (List D)} (h : CB c r f) (ha : AB c t m) : Ex c (tCB r t) (mB f m) := fun δ σ F H Q z S e k => by
  obtain ⟨ds, e1, e2⟩ := Option.bind_eq_some_iff.mp (show (m δ).bind f = some z from e)
  refine ha δ σ F H _ ds S e1 fun vs F1 H1 x1 r1 => ?_
  exact h F1 H1 vs ds z Q x1.s r1 e2 fun v F2 H2 x2 r2 => k v F2 H2 (x1.trans x2) r2
theorem ox_cb {r : List V → Hp → VK → Prop} {f : List D → Option D} {t : TA} {m : M (List D)} (h : CO c r f) (ha : AB c t m) : Ox c (tCB r t) (mB f m) := fun δ σ F H Q z S e k => by
  obtain ⟨ds, e1, e2⟩ := Option.bind_eq_some_iff.mp (show (m δ).bind f = some z from e)
  refine ha δ σ F H _ ds S e1 fun vs F1 H1 x1 r1 => ?_
  refine h F1 H1 vs ds z Q x1.s r1 e2 fun a o F2 H2 x2 hn ha hf r2 => k a o F2 H2 (x1.trans x2) ?_ ha hf r2
  cases q : H a with
  | none => rfl
  | some u => rw [x1.h a u q] at hn; cases hn
theorem rbl1 {K : PySem.W.Frag} {F H : Hp} {vs : List V} {d : D} (r : RBL K F H vs [d]) : ∃ v, vs = [v] ∧ RB K F H v d := by
  cases r with
  | cons r t => cases t; exact ⟨_, rfl, r⟩
theorem rbl2 {K : PySem.W.Frag} {F H : Hp} {vs : List V} {d e : D} (r : RBL K F H vs [d, e]) : ∃ v w, vs = [v, w] ∧ RB K F H v d ∧ RB K F H w e := by
  cases r with
  | cons r t =>
    obtain ⟨w, rfl, r2⟩ := rbl1 t
    exact ⟨_, w, rfl, r, r2⟩
def f1 (f : D → Option D) : List D → Option D
  | [d] => f d
  | _ => none
theorem f1_some {f : D → Option D} {ds : List D} {z : D} (h : f1 f ds = some z) : ∃ d, ds = [d] ∧ f d = some z := by
  cases ds with
  | nil => cases h
  | cons d t =>
    cases t with
    | nil => exact ⟨d, rfl, h⟩
    | cons _ _ => cases h
/-- len of a list, a tuple -/
def fLen (d : D) : Option D := (seqD d).map fun ds => .int ds.length
theorem cb_len : CB c (fun xs H Q => ∃ p ys, xs = [.ref p] ∧ (SqL c.K H p ys ∨ SqT c.K H p ys) ∧ Q (.int ys.length) H) (f1 fLen) := fun F H vs ds z Q s r h k => by
  obtain ⟨d, rfl, h⟩ := f1_some h
  obtain ⟨es, h1, rfl⟩ := Option.map_eq_some_iff.mp h
  obtain ⟨v, rfl, r1⟩ := rbl1 r
  obtain ⟨a, xs, rfl, hq, rl⟩ := r1.seq s h1
  exact ⟨a, xs, rfl, hq, by rw [rl.length]; exact k _ F H (Ext.refl s) (.int _)⟩
/-- ints of a list -/
def intsD : List D → Option (List Int)
  | [] => some []
  | .int i :: ds => (intsD ds).map fun is => i :: is
  | _ :: _ => none
theorem ints_ok {K : PySem.W.Frag} {F : Hp} : ∀ {ds : List D} {vs : List V} {is : List Int}, RpL K F vs ds → intsD ds = some is → vs = is.map V.int ∧ ds = is.map D.int
  | [], vs, is, r, h => by cases h; cases r; exact ⟨rfl, rfl⟩
  | d :: ds, vs, is, r, h => by
    cases d with
    | int i =>
      obtain ⟨us, h3, rfl⟩ := Option.map_eq_some_iff.mp (show (intsD ds).map (fun is => i :: is) = some is from h)
      cases r with
      | cons r1 r2 =>
        obtain ⟨rfl, rfl⟩ := ints_ok r2 h3
        exact ⟨by rw [rp_int r1]; rfl, rfl⟩
    | _ => cases h
def boolsD : List D → Option (List Bool)
  | [] => some []
  | .bl i :: ds => (boolsD ds).map fun is => i :: is
  | _ :: _ => none
theorem bools_ok {K : PySem.W.Frag} {F : Hp} : ∀ {ds : List D} {vs : List V} {is : List Bool}, RpL K F vs ds → boolsD ds = some is → vs = is.map V.bl ∧ ds = is.map D.bl
  | [], vs, is, r, h => by cases h; cases r; exact ⟨rfl, rfl⟩
  | d :: ds, vs, is, r, h => by
    cases d with
    | bl i =>
      obtain ⟨us, h3, rfl⟩ := Option.map_eq_some_iff.mp (show (boolsD ds).map (fun is => i :: is) = some is from h)
      cases r with
      | cons r1 r2 =>
        obtain ⟨rfl, rfl⟩ := bools_ok r2 h3
        exact ⟨by rw [rp_bl r1]; rfl, rfl⟩
    | _ => cases h
def lstD : D → Option (List D)
  | .lst ds => some ds
  | _ => none
theorem lstD_ok {d : D} {ds : List D} (h : lstD d = some ds) : d = .lst ds := by
  cases d <;> first
    | (cases h; rfl)
    | (cases h; done)
theorem RB.lst {K : PySem.W.Frag} {F H : Hp} {v : V} {ds : List D} (r : RB K F H v (.lst ds)) (s : Same F H) : ∃ a xs, v = .ref a ∧ H a = some (.lst xs) ∧ RpL K F xs ds := by
  rcases r with r | ⟨a, o, rfl, e, r⟩
  · obtain ⟨a, xs, h1, h2, h3⟩ := rp_lst r
    exact ⟨a, xs, h1, s _ _ h2, h3⟩
  · cases r with
    | lst r => exact ⟨a, _, rfl, e, r⟩
def fSum (d : D) : Option D := (lstD d).bind fun ds => (intsD ds).map fun is => .int is.sum
theorem cb_sum : CB c (rSum c.K) (f1 fSum) := fun F H vs ds z Q s r h k => by
  obtain ⟨d, rfl, h⟩ := f1_some h
  obtain ⟨es, h1, h⟩ := Option.bind_eq_some_iff.mp h
  obtain ⟨is, h2, rfl⟩ := Option.map_eq_some_iff.mp h
  obtain rfl := lstD_ok h1
  obtain ⟨v, rfl, r1⟩ := rbl1 r
  obtain ⟨a, xs, rfl, e, rl⟩ := r1.lst s
  obtain ⟨rfl, _⟩ := ints_ok rl h2
  exact ⟨a, is, rfl, SqL.of e, k _ F H (Ext.refl s) (.int _)⟩
def fAll (d : D) : Option D := (lstD d).bind fun ds => (boolsD ds).map fun is => .bl (is.all id)
theorem cb_all : CB c (rAll c.K) (f1 fAll) := fun F H vs ds z Q s r h k => by
  obtain ⟨d, rfl, h⟩ := f1_some h
  obtain ⟨es, h1, h⟩ := Option.bind_eq_some_iff.mp h
  obtain ⟨is, h2, rfl⟩ := Option.map_eq_some_iff.mp h
  obtain rfl := lstD_ok h1
  obtain ⟨v, rfl, r1⟩ := rbl1 r
  obtain ⟨a, xs, rfl, e, rl⟩ := r1.lst s
  obtain ⟨rfl, _⟩ := bools_ok rl h2
  exact ⟨a, is, rfl, SqL.of e, k _ F H (Ext.refl s) (.bl _)⟩
def fAny (d : D) : Option D := (lstD d).bind fun ds => (boolsD ds).map fun is => .bl (is.any id)
theorem cb_any : CB c (rAny c.K) (f1 fAny) := fun F H vs ds z Q s r h k => by
  obtain ⟨d, rfl, h⟩ := f1_some h
  obtain ⟨es, h1, h⟩ := Option.bind_eq_some_iff.mp h
  obtain ⟨is, h2, rfl⟩ := Option.map_eq_some_iff.mp h
  obtain rfl := lstD_ok h1
  obtain ⟨v, rfl, r1⟩ := rbl1 r
  obtain ⟨a, xs, rfl, e, rl⟩ := r1.lst s
  obtain ⟨rfl, _⟩ := bools_ok rl h2
  exact ⟨a, is, rfl, SqL.of e, k _ F H (Ext.refl s) (.bl _)⟩
/-- the least, the greatest -/
def leastI : List Int → Option Int
  | [] => none
  | [i] => some i
  | i :: is => (leastI is).map fun j => if i ≤ j then i else j
theorem leastI_ok : ∀ {is : List Int} {m : Int}, leastI is = some m → m ∈ is ∧ ∀ y ∈ is, m ≤ y
  | [], m, h => by cases h
  | [i], m, h => by cases h; simp
  | i :: j :: is, m, h => by
    obtain ⟨k, h1, h2⟩ := Option.map_eq_some_iff.mp (show (leastI (j :: is)).map (fun j => if i ≤ j then i else j) = some m from h)
    obtain ⟨m1, m2⟩ := leastI_ok h1
    subst h2
    split
    · refine ⟨List.mem_cons_self, fun y hy => ?_⟩
      rcases List.mem_cons.mp hy with rfl | hy
      · exact Int.le_refl _
      · have := m2 y hy; omega
    · refine ⟨List.mem_cons_of_mem _ m1, fun y hy => ?_⟩
      rcases List.mem_cons.mp hy with rfl | hy
      · omega
      · exact m2 y hy
def fMin (d : D) : Option D := (lstD d).bind fun ds => (intsD ds).bind fun is => (leastI is).map .int
theorem cb_min : CB c (rMin c.K) (f1 fMin) := fun F H vs ds z Q s r h k => by
  obtain ⟨d, rfl, h⟩ := f1_some h
  obtain ⟨es, h1, h⟩ := Option.bind_eq_some_iff.mp h
  obtain ⟨is, h2, h⟩ := Option.bind_eq_some_iff.mp h
  obtain ⟨m, h3, rfl⟩ := Option.map_eq_some_iff.mp h
  obtain rfl := lstD_ok h1
  obtain ⟨v, rfl, r1⟩ := rbl1 r
  obtain ⟨a, xs, rfl, e, rl⟩ := r1.lst s
  obtain ⟨rfl, _⟩ := ints_ok rl h2
  obtain ⟨q1, q2⟩ := leastI_ok h3
  refine ⟨a, is, rfl, SqL.of e, List.length_pos_of_mem q1, fun m' hm' hle => ?_⟩
  have : m' = m := Int.le_antisymm (hle m q1) (q2 m' hm')
  subst this
  exact k _ F H (Ext.refl s) (.int _)
/-- tuple(xs), list(xs) -/
theorem cb_tuple : CB c (fun xs H Q => ∃ p ys, xs = [.ref p] ∧ ((SqL c.K H p ys ∧ ∀ l, H l = none → Q (.ref l) (upd H l (.tup ys))) ∨ (SqT c.K H p ys ∧ Q (.ref p) H))) (f1 fun d => (lstD d).map D.tup) := fun F H vs ds z Q s r h k => by
  obtain ⟨d, rfl, h⟩ := f1_some h
  obtain ⟨es, h1, rfl⟩ := Option.map_eq_some_iff.mp h
  obtain rfl := lstD_ok h1
  obtain ⟨v, rfl, r1⟩ := rbl1 r
  obtain ⟨a, xs, rfl, e, rl⟩ := r1.lst s
  refine ⟨a, xs, rfl, .inl ⟨SqL.of e, fun p hp => ?_⟩⟩
  have x2 : Ext F H (upd F p (.tup xs)) (upd H p (.tup xs)) := Ext.laid s hp
  exact k _ _ _ x2 (.obj upd_same (.tup (rl.mono x2.f)))
theorem none_of {F H : Hp} (s : Same F H) {p : Addr} (h : H p = none) : F p = none := by
  cases q : F p with
  | none => rfl
  | some o => rw [s p o q] at h; cases h
theorem co_list : CO c (fun xs H Q => ∃ p ys, xs = [.ref p] ∧ (SqL c.K H p ys ∨ SqT c.K H p ys) ∧ ∀ l, H l = none → Q (.ref l) (upd H l (.lst ys))) (f1 fun d => (seqD d).map D.lst) := fun F H vs ds z Q s r h k => by
  obtain ⟨d, rfl, h⟩ := f1_some h
  obtain ⟨es, h1, rfl⟩ := Option.map_eq_some_iff.mp h
  obtain ⟨v, rfl, r1⟩ := rbl1 r
  obtain ⟨a, xs, rfl, hq, rl⟩ := r1.seq s h1
  exact ⟨a, xs, rfl, hq, fun p hp => k p _ F _ (Ext.temp s hp) hp upd_same (none_of s hp) (.lst rl)⟩
/-- sorted ints -/
def insI (i : Int) : List Int → List Int
  | [] => [i]
  | j :: js => if i ≤ j then i :: j :: js else j :: insI i js
def sortI : List Int → List Int
  | [] => []
  | i :: is => insI i (sortI is)
theorem insI_perm (i : Int) : ∀ js, (insI i js).Perm (i :: js)
  | [] => List.Perm.refl _
  | j :: js => by
    unfold insI
    split
    · exact List.Perm.refl _
    · exact ((insI_perm i js).cons j).trans (List.Perm.swap i j js)
theorem sortI_perm : ∀ is, (sortI is).Perm is
  | [] => List.Perm.refl _
  | i :: is => (insI_perm i _).trans ((sortI_perm is).cons i)
theorem insI_sorted (i : Int) : ∀ js : List Int, js.Pairwise (· ≤ ·) → (insI i js).Pairwise (· ≤ ·)
  | [], _ => List.pairwise_singleton _ _
  | j :: js, h => by
    unfold insI
    obtain ⟨h1, h2⟩ := List.pairwise_cons.mp h
    split
    · rename_i hij
      refine List.pairwise_cons.mpr ⟨fun y hy => ?_, h⟩
      rcases List.mem_cons.mp hy with rfl | hy
      · exact hij
      · exact Int.le_trans hij (h1 y hy)
    · rename_i hij
      refine List.pairwise_cons.mpr ⟨fun y hy => ?_, insI_sorted i js h2⟩
      rcases List.mem_cons.mp ((insI_perm i js).mem_iff.mp hy) with rfl | hy
      · omega
      · exact h1 y hy
theorem sortI_sorted : ∀ is, (sortI is).Pairwise (· ≤ ·)
  | [] => List.Pairwise.nil
  | i :: is => insI_sorted i _ (sortI_sorted is)
theorem sorted_uniq : ∀ {a b : List Int}, a.Perm b → a.Pairwise (· ≤ ·) → b.Pairwise (· ≤ ·) → a = b
  | [], b, p, _, _ => (List.nil_perm.mp p).symm
  | x :: a, b, p, ha, hb => by
    cases b with
    | nil => exact absurd p.length_eq (by simp)
    | cons y b =>
      obtain ⟨h1, h2⟩ := List.pairwise_cons.mp ha
      obtain ⟨h3, h4⟩ := List.pairwise_cons.mp hb
      have e : x = y := by
        have m1 : x ∈ y :: b := p.mem_iff.mp List.mem_cons_self
        have m2 : y ∈ x :: a := p.mem_iff.mpr List.mem_cons_self
        rcases List.mem_cons.mp m1 with e | m1
        · exact e
        rcases List.mem_cons.mp m2 with e | m2
        · exact e.symm
        exact Int.le_antisymm (h1 y m2) (h3 x m1)
      subst e
      rw [sorted_uniq (List.Perm.cons_inv p) h2 h4]
def fSorted (d : D) : Option D := (lstD d).bind fun ds => (intsD ds).map fun is => .lst ((sortI is).map D.int)
theorem rpl_ints {K : PySem.W.Frag} {F : Hp} : ∀ is : List Int, RpL K F (is.map V.int) (is.map D.int)
  | [] => .nil
  | i :: is => .cons (.int i) (rpl_ints is)
theorem co_sorted : CO c (rSortedI c.K) (f1 fSorted) := fun F H vs ds z Q s r h k => by
  obtain ⟨d, rfl, h⟩ := f1_some h
  obtain ⟨es, h1, h⟩ := Option.bind_eq_some_iff.mp h
  obtain ⟨is, h2, rfl⟩ := Option.map_eq_some_iff.mp h
  obtain rfl := lstD_ok h1
  obtain ⟨v, rfl, r1⟩ := rbl1 r
  obtain ⟨a, xs, rfl, e, rl⟩ := r1.lst s
  obtain ⟨rfl, _⟩ := ints_ok rl h2
  refine ⟨a, is, rfl, SqL.of e, fun ns' p pm sr hp => ?_⟩
  obtain rfl := sorted_uniq (pm.trans (sortI_perm is).symm) sr (sortI_sorted is)
  exact k p _ F _ (Ext.temp s hp) hp upd_same (none_of s hp) (.lst (rpl_ints _))
end
end DL

namespace DL
open PySem PySem.Spec L2

section
variable {c : Cc} {ta tb tc : TE} {ma mb mc : M D}

/-! tests -/
def boolD : D → Option Bool
  | .bl b => some b
  | _ => none
theorem boolD_ok {d : D} {b : Bool} (h : boolD d = some b) : d = .bl b := by
  cases d <;> first
    | (cases h; rfl)
    | (cases h; done)
def mBool (m : M D) : M Bool := fun δ => (m δ).bind boolD
theorem mBool_some {m : M D} {δ : DS} {b : Bool} (h : mBool m δ = some b) : m δ = some (.bl b) := by
  obtain ⟨d, h1, h2⟩ := Option.bind_eq_some_iff.mp (show (m δ).bind boolD = some b from h)
  rw [h1, boolD_ok h2]
theorem tx_test (h : Bx c ta ma) : Tx c (tTest ta) (mBool ma) := fun δ σ F H Q b S e k => by
  refine h δ σ F H _ _ S (mBool_some e) fun v F1 H1 x1 r1 => ?_
  exact ⟨b, rp_bl (r1.h x1.s), k F1 H1 x1⟩
theorem tx_b (h : Bx c ta ma) : Tx c (tB ta) (mBool ma) := fun δ σ F H Q b S e k => by
  refine h δ σ F H _ _ S (mBool_some e) fun v F1 H1 x1 r1 => ?_
  exact ⟨b, rp_bl (r1.h x1.s), k F1 H1 x1⟩
/-- a value's truth -/
def truD : D → Option Bool
  | .non => some false
  | .bl b => some b
  | .int i => some (i != 0)
  | .tup ds => some (!ds.isEmpty)
  | .ktup ds => some (!ds.isEmpty)
  | .ftup ds => some (!ds.isEmpty)
  | .lst ds => some (!ds.isEmpty)
  | .dct false ks _ => some (!ks.isEmpty)
  | _ => none
theorem isEmpty_len {α β : Type} {a : List α} {b : List β} (h : a.length = b.length) : a.isEmpty = b.isEmpty := by
  cases a <;> cases b <;> first
    | rfl
    | (simp at h)
theorem tru_ok' {K : PySem.W.Frag} {F H : Hp} {v : V} {d : D} {b : Bool} (s : Same F H) (r : RB K F H v d) (h : truD d = some b) : TruV K v H b := by
  cases d with
  | non => cases h; obtain rfl := rp_non (r.h s); rfl
  | bl i => cases h; obtain rfl := rp_bl (r.h s); rfl
  | int i => cases h; obtain rfl := rp_int (r.h s); rfl
  | tup ds => cases h; obtain ⟨a, xs, rfl, e, rl⟩ := rp_tup (r.h s); exact .inr (.inl ⟨xs, SqT.of e, by rw [isEmpty_len rl.length]⟩)
  | ktup ds => cases h; obtain ⟨a, xs, rfl, e, rl⟩ := rp_ktup (r.h s); exact .inr (.inl ⟨xs, e, by rw [isEmpty_len rl.length]⟩)
  | ftup ds => cases h; obtain ⟨a, ob, xs, rfl, e, _, _, rl⟩ := rp_ftup (r.h s); exact .inr (.inl ⟨xs, sqt_frz e, by rw [isEmpty_len rl.length]⟩)
  | lst ds => cases h; obtain ⟨a, xs, rfl, e, rl⟩ := rp_lst (r.h s); exact .inl ⟨xs, SqL.of e, by rw [isEmpty_len rl.length]⟩
  | dct t ks vs =>
    cases t with
    | true => cases h
    | false =>
      cases h
      obtain ⟨a, kvs, rfl, e, rfl, rl⟩ := rp_dK (r.h s)
      exact .inr (.inr ⟨kvs, e, by rw [isEmpty_len (List.length_map ..)]⟩)
  | _ => cases h
def mTru (m : M D) : M Bool := fun δ => (m δ).bind truD
theorem tx_tru (h : Bx c ta ma) : Tx c (fun σ H Q => ta σ H fun x H' => ∃ k, TruV c.K x H' k ∧ Q k H') (mTru ma) := fun δ σ F H Q b S e k => by
  obtain ⟨d, h1, h2⟩ := Option.bind_eq_some_iff.mp (show (ma δ).bind truD = some b from e)
  refine h δ σ F H _ d S h1 fun v F1 H1 x1 r1 => ?_
  exact ⟨b, tru_ok' x1.s r1 h2, k F1 H1 x1⟩
def mAnd (m n : M Bool) : M Bool := fun δ => (m δ).bind fun b => if b then n δ else some false
def mOr (m n : M Bool) : M Bool := fun δ => (m δ).bind fun b => if b then some true else n δ
def mNot (m : M Bool) : M Bool := fun δ => (m δ).map fun b => !b
section
variable {t u : TT} {m n : M Bool}
theorem tx_and (h1 : Tx c t m) (h2 : Tx c u n) : Tx c (tAnd t u) (mAnd m n) := fun δ σ F H Q b S e k => by
  obtain ⟨b1, e1, e2⟩ := Option.bind_eq_some_iff.mp (show (m δ).bind (fun b => if b then n δ else some false) = some b from e)
  refine h1 δ σ F H _ b1 S e1 fun F1 H1 x1 => ?_
  cases b1 with
  | true => exact iteT (h2 δ σ F1 H1 _ b (S.up x1) e2 fun F2 H2 x2 => k F2 H2 (x1.trans x2))
  | false => cases e2; exact iteF (k F1 H1 x1)
theorem tx_or (h1 : Tx c t m) (h2 : Tx c u n) : Tx c (tOr t u) (mOr m n) := fun δ σ F H Q b S e k => by
  obtain ⟨b1, e1, e2⟩ := Option.bind_eq_some_iff.mp (show (m δ).bind (fun b => if b then some true else n δ) = some b from e)
  refine h1 δ σ F H _ b1 S e1 fun F1 H1 x1 => ?_
  cases b1 with
  | false => exact iteF (h2 δ σ F1 H1 _ b (S.up x1) e2 fun F2 H2 x2 => k F2 H2 (x1.trans x2))
  | true => cases e2; exact iteT (k F1 H1 x1)
theorem tx_not (h1 : Tx c t m) : Tx c (tNot t) (mNot m) := fun δ σ F H Q b S e k => by
  obtain ⟨b1, e1, e2⟩ := Option.map_eq_some_iff.mp (show (m δ).map (fun b => !b) = some b from e)
  subst e2
  exact h1 δ σ F H _ b1 S e1 fun F1 H1 x1 => k F1 H1 x1
def mIfE (m : M Bool) (ma mb : M D) : M D := fun δ => (m δ).bind fun b => if b then ma δ else mb δ
theorem ex_if (h1 : Tx c t m) (ha : Ex c ta ma) (hb : Ex c tb mb) : Ex c (tIf t ta tb) (mIfE m ma mb) := fun δ σ F H Q z S e k => by
  obtain ⟨b1, e1, e2⟩ := Option.bind_eq_some_iff.mp (show (m δ).bind (fun b => if b then ma δ else mb δ) = some z from e)
  refine h1 δ σ F H _ b1 S e1 fun F1 H1 x1 => ?_
  cases b1 with
  | true => exact iteT (ha δ σ F1 H1 _ z (S.up x1) e2 fun v F2 H2 x2 r2 => k v F2 H2 (x1.trans x2) r2)
  | false => exact iteF (hb δ σ F1 H1 _ z (S.up x1) e2 fun v F2 H2 x2 r2 => k v F2 H2 (x1.trans x2) r2)
end
def mAndV (ma mb : M D) : M D := fun δ => (ma δ).bind fun x => (boolD x).bind fun b => if b then mb δ else some (.bl false)
def mOrV (ma mb : M D) : M D := fun δ => (ma δ).bind fun x => (boolD x).bind fun b => if b then some (.bl true) else mb δ
def mNotV (ma : M D) : M D := fun δ => (ma δ).bind fun x => (boolD x).map fun b => .bl (!b)
theorem ex_and (ha : Bx c ta ma) (hb : Ex c tb mb) : Ex c (tAndV ta tb) (mAndV ma mb) := fun δ σ F H Q z S e k => by
  obtain ⟨x, e1, e2⟩ := Option.bind_eq_some_iff.mp (show (ma δ).bind (fun x => (boolD x).bind fun b => if b then mb δ else some (.bl false)) = some z from e)
  obtain ⟨b, e3, e4⟩ := Option.bind_eq_some_iff.mp e2
  obtain rfl := boolD_ok e3
  refine ha δ σ F H _ _ S e1 fun v F1 H1 x1 r1 => ?_
  refine ⟨b, rp_bl (r1.h x1.s), ?_⟩
  cases b with
  | true => exact iteT (hb δ σ F1 H1 _ z (S.up x1) e4 fun v F2 H2 x2 r2 => k v F2 H2 (x1.trans x2) r2)
  | false => cases e4; exact iteF (k _ F1 H1 x1 (.bl _))
theorem ex_or (ha : Bx c ta ma) (hb : Ex c tb mb) : Ex c (tOrV ta tb) (mOrV ma mb) := fun δ σ F H Q z S e k => by
  obtain ⟨x, e1, e2⟩ := Option.bind_eq_some_iff.mp (show (ma δ).bind (fun x => (boolD x).bind fun b => if b then some (.bl true) else mb δ) = some z from e)
  obtain ⟨b, e3, e4⟩ := Option.bind_eq_some_iff.mp e2
  obtain rfl := boolD_ok e3
  refine ha δ σ F H _ _ S e1 fun v F1 H1 x1 r1 => ?_
  refine ⟨b, rp_bl (r1.h x1.s), ?_⟩
  cases b with
  | false => exact iteF (hb δ σ F1 H1 _ z (S.up x1) e4 fun v F2 H2 x2 r2 => k v F2 H2 (x1.trans x2) r2)
  | true => cases e4; exact iteT (k _ F1 H1 x1 (.bl _))
theorem ex_not (ha : Bx c ta ma) : Ex c (tNotV ta) (mNotV ma) := fun δ σ F H Q z S e k => by
  obtain ⟨x, e1, e2⟩ := Option.bind_eq_some_iff.mp (show (ma δ).bind (fun x => (boolD x).map fun b => .bl (!b)) = some z from e)
  obtain ⟨b, e3, rfl⟩ := Option.map_eq_some_iff.mp e2
  obtain rfl := boolD_ok e3
  refine ha δ σ F H _ _ S e1 fun v F1 H1 x1 r1 => ?_
  exact ⟨b, rp_bl (r1.h x1.s), k _ F1 H1 x1 (.bl _)⟩
/-- a < b < c -/
def mChain (f g : D → D → Option D) (ma mb mc : M D) : M D := fun δ => (ma δ).bind fun x => (mb δ).bind fun y => (f x y).bind fun r => (boolD r).bind fun b => if b then (mc δ).bind fun z => g y z else some (.bl false)
theorem ex_chain {r r' : R2} {f g : D → D → Option D} (hf : OpB c r f) (hg : OpB c r' g) (ha : Bx c ta ma) (hb : Bx c tb mb) (hc : Bx c tc mc) : Ex c (tChain r r' ta tb tc) (mChain f g ma mb mc) := fun δ σ F H Q z S e k => by
  obtain ⟨x, e1, f1⟩ := Option.bind_eq_some_iff.mp (show (ma δ).bind (fun x => (mb δ).bind fun y => (f x y).bind fun r => (boolD r).bind fun b => if b then (mc δ).bind fun z => g y z else some (.bl false)) = some z from e)
  obtain ⟨y, e2, f2⟩ := Option.bind_eq_some_iff.mp f1
  obtain ⟨q, e3, f3⟩ := Option.bind_eq_some_iff.mp f2
  obtain ⟨b, e4, f4⟩ := Option.bind_eq_some_iff.mp f3
  have e5 := boolD_ok e4
  subst e5
  refine ha δ σ F H _ _ S e1 fun u F1 H1 x1 r1 => ?_
  refine hb δ σ F1 H1 _ _ (S.up x1) e2 fun v F2 H2 x2 r2 => ?_
  refine hf F2 H2 u v x y _ _ x2.s ((r1.up x2).h x2.s) (r2.h x2.s) e3 fun w F3 H3 x3 r3 => ?_
  refine ⟨b, rp_bl r3, ?_⟩
  cases b with
  | false => cases f4; exact iteF (k _ F3 H3 ((x1.trans x2).trans x3) (.bl _))
  | true =>
    obtain ⟨z', e5, e6⟩ := Option.bind_eq_some_iff.mp (show ((mc δ).bind fun z => g y z) = some z from f4)
    refine iteT (hc δ σ F3 H3 _ _ (((S.up x1).up x2).up x3) e5 fun w' F4 H4 x4 r4 => ?_)
    exact hg F4 H4 v w' y z' z Q x4.s (((r2.up x3).up x4).h x4.s) (r4.h x4.s) e6 fun v F5 H5 x5 r5 => k v F5 H5 ((((x1.trans x2).trans x3).trans x4).trans x5) r5

/-! statements -/
inductive Fl where
  | nx (δ : DS) | rt (d : D) | bk (δ : DS) | ct (δ : DS)
  deriving Inhabited
def FlOk (c : Cc) (F : Hp) (En : Ends) : Fl → Prop
  | .nx δ => ∀ σ F' H', SR c.K c.F0 c.H0 F' H' σ δ → Same F F' → En.nx σ H'
  | .bk δ => ∀ σ F' H', SR c.K c.F0 c.H0 F' H' σ δ → Same F F' → En.bk σ H'
  | .ct δ => ∀ σ F' H', SR c.K c.F0 c.H0 F' H' σ δ → Same F F' → En.ct σ H'
  | .rt d => ∀ v F' H', Ext c.F0 c.H0 F' H' → Rp c.K F' v d → En.rt v H'
theorem FlOk.up {F F' : Hp} {En : Ends} {fl : Fl} (h : FlOk c F En fl) (s : Same F F') : FlOk c F' En fl := by
  cases fl with
  | rt d => exact h
  | nx δ => exact fun σ F2 H2 S s2 => h σ F2 H2 S (s.trans s2)
  | bk δ => exact fun σ F2 H2 S s2 => h σ F2 H2 S (s.trans s2)
  | ct δ => exact fun σ F2 H2 S s2 => h σ F2 H2 S (s.trans s2)
def Sx (c : Cc) (t : TS) (m : M Fl) : Prop := ∀ (δ : DS) (σ : St) (F H : Hp) (En : Ends) (fl : Fl), SR c.K c.F0 c.H0 F H σ δ → m δ = some fl → FlOk c F En fl → t En σ H
def mNext : M Fl := fun δ => some (.nx δ)
theorem sx_next : Sx c tNext mNext := fun δ σ F H En fl S e k => by
  cases e
  exact k σ F H S (Same.refl F)
def mSeq (m n : M Fl) : M Fl := fun δ => match m δ with
  | some (.nx δ1) => n δ1
  | r => r
theorem sx_seq {t u : TS} {m n : M Fl} (h1 : Sx c t m) (h2 : Sx c u n) : Sx c (tSeq t u) (mSeq m n) := fun δ σ F H En fl S e k => by
  unfold mSeq at e
  cases q : m δ with
  | none => rw [q] at e; cases e
  | some f1 =>
    rw [q] at e
    refine h1 δ σ F H { En with nx := u En } f1 S q ?_
    cases f1 with
    | nx δ1 => exact fun σ1 F1 H1 S1 s1 => h2 δ1 σ1 F1 H1 En fl S1 e (k.up s1)
    | rt d => cases e; exact k
    | bk d => cases e; exact k
    | ct d => cases e; exact k
/-- an own thing is frozen ahead -/
def frz (i : Nat) (δ : DS) : DS := match δ[i]? with
  | some (SV.own d) => δ.set i (SV.fro d)
  | _ => δ
theorem sx_frz {t : TS} {m : M Fl} (i : Nat) (h : Sx c t m) : Sx c t (fun δ => m (frz i δ)) := fun δ σ F H En fl S e k => by
  have e' : m (frz i δ) = some fl := e
  unfold frz at e'
  split at e'
  · rename_i d q
    obtain ⟨F', s, S'⟩ := S.freeze q
    exact h _ σ F' H En fl S' e' (k.up s)
  · exact h δ σ F H En fl S e' k
def mRet (m : M D) : M Fl := fun δ => (m δ).map .rt
theorem sx_ret (h : Ex c ta ma) : Sx c (tRet ta) (mRet ma) := fun δ σ F H En fl S e k => by
  obtain ⟨d, e1, rfl⟩ := Option.map_eq_some_iff.mp (show (ma δ).map Fl.rt = some fl from e)
  exact h δ σ F H _ d S e1 fun v F' H' x r => k v F' H' (S.ext.trans x) r
theorem sx_retN : Sx c tRetN (fun _ => some (.rt .non)) := fun δ σ F H En fl S e k => by
  cases e
  exact k _ F H S.ext .non
def mIf (m : M Bool) (a b : M Fl) : M Fl := fun δ => (m δ).bind fun k => if k then a δ else b δ
theorem sx_if {t : TT} {m : M Bool} {u w : TS} {a b : M Fl} (h1 : Tx c t m) (ha : Sx c u a) (hb : Sx c w b) : Sx c (tIfS t u w) (mIf m a b) := fun δ σ F H En fl S e k => by
  obtain ⟨b1, e1, e2⟩ := Option.bind_eq_some_iff.mp (show (m δ).bind (fun k => if k then a δ else b δ) = some fl from e)
  refine h1 δ σ F H _ b1 S e1 fun F1 H1 x1 => ?_
  cases b1 with
  | true => exact iteT (ha δ σ F1 H1 En fl (S.up x1) e2 (k.up x1.f))
  | false => exact iteF (hb δ σ F1 H1 En fl (S.up x1) e2 (k.up x1.f))
/-- a way that is not taken -/
def mStop : M Fl := fun _ => none
theorem sx_stop {t : TS} : Sx c t mStop := fun δ σ F H En fl S e k => by cases e
theorem sx_break : Sx c tBreak (fun δ => some (.bk δ)) := fun δ σ F H En fl S e k => by
  cases e
  exact k σ F H S (Same.refl F)
theorem sx_cont : Sx c tCont (fun δ => some (.ct δ)) := fun δ σ F H En fl S e k => by
  cases e
  exact k σ F H S (Same.refl F)
theorem sx_expr (h : Bx c ta ma) : Sx c (tDrop ta) (fun δ => (ma δ).map fun _ => .nx δ) := fun δ σ F H En fl S e k => by
  obtain ⟨d, e1, rfl⟩ := Option.map_eq_some_iff.mp e
  exact h δ σ F H _ d S e1 fun v F' H' x r => k σ F' H' (S.up x) x.f
/-- targets -/
def Gx (c : Cc) (g : TG) (st : DS → D → Option DS) : Prop := ∀ (δ δ' : DS) (σ : St) (F H : Hp) (Q : St → Hp → Prop) (v : V) (d : D), SR c.K c.F0 c.H0 F H σ δ → Rp c.K F v d → st δ d = some δ' →
  (∀ σ', SR c.K c.F0 c.H0 F H σ' δ' → Q σ' H) → g v σ H Q
def stN (i : Nat) : DS → D → Option DS := fun δ d => some (δ.set i (SV.fro d))
theorem gx_name (i : Nat) : Gx c (gName i) (stN i) := fun δ δ' σ F H Q v d S r e k => by
  cases e
  exact k _ (S.set r)
def GsX (c : Cc) (g : TGs) (st : DS → List D → Option DS) : Prop := ∀ (δ δ' : DS) (σ : St) (F H : Hp) (Q : St → Hp → Prop) (vs : List V) (ds : List D), SR c.K c.F0 c.H0 F H σ δ → RpL c.K F vs ds → st δ ds = some δ' →
  (∀ σ', SR c.K c.F0 c.H0 F H σ' δ' → Q σ' H) → g vs σ H Q
def stNil : DS → List D → Option DS := fun δ ds => match ds with
  | [] => some δ
  | _ => none
def stCons (a : DS → D → Option DS) (b : DS → List D → Option DS) : DS → List D → Option DS := fun δ ds => match ds with
  | d :: ds => (a δ d).bind fun δ1 => b δ1 ds
  | [] => none
theorem gsx_nil : GsX c gNil stNil := fun δ δ' σ F H Q vs ds S r e k => by
  cases r with
  | nil => cases e; exact ⟨rfl, k σ S⟩
  | cons _ _ => cases e
theorem gsx_cons {g : TG} {gs : TGs} {a : DS → D → Option DS} {b : DS → List D → Option DS} (h1 : Gx c g a) (h2 : GsX c gs b) : GsX c (gCons g gs) (stCons a b) := fun δ δ' σ F H Q vs ds S r e k => by
  cases r with
  | nil => cases e
  | @cons v vs d ds r1 r2 =>
    obtain ⟨δ1, e1, e2⟩ := Option.bind_eq_some_iff.mp (show (a δ d).bind (fun δ1 => b δ1 ds) = some δ' from e)
    exact ⟨v, vs, rfl, h1 δ δ1 σ F H _ v d S r1 e1 fun σ1 S1 => h2 δ1 δ' σ1 F H Q vs ds S1 r2 e2 k⟩
def tupD : D → Option (List D)
  | .tup ds => some ds
  | .ktup ds => some ds
  | .ftup ds => some ds
  | _ => none
theorem tupD_ok {K : PySem.W.Frag} {F : Hp} {v : V} {d : D} {ds : List D} (r : Rp K F v d) (h : tupD d = some ds) : ∃ a xs, v = .ref a ∧ SqT K F a xs ∧ RpL K F xs ds := by
  cases d <;> first
    | (cases h; obtain ⟨a, xs, h1, h2, h3⟩ := rp_tup r; exact ⟨a, xs, h1, SqT.of h2, h3⟩)
    | (cases h; exact rp_ktup r)
    | (cases h; obtain ⟨a, ob, xs, h1, h2, _, _, h3⟩ := rp_ftup r; exact ⟨a, xs, h1, sqt_frz h2, h3⟩)
    | (cases h; done)
def stTup (n : Nat) (b : DS → List D → Option DS) : DS → D → Option DS := fun δ d => (tupD d).bind fun ds => if ds.length = n then b δ ds else none
theorem gx_tup {n : Nat} {gs : TGs} {b : DS → List D → Option DS} (h : GsX c gs b) : Gx c (gTup c.K n gs) (stTup n b) := fun δ δ' σ F H Q v d S r e k => by
  obtain ⟨ds, e1, e2⟩ := Option.bind_eq_some_iff.mp (show (tupD d).bind (fun ds => if ds.length = n then b δ ds else none) = some δ' from e)
  split at e2
  · rename_i hl
    obtain ⟨a, xs, rfl, hs, rl⟩ := tupD_ok r e1
    exact ⟨a, xs, rfl, same_seqT S.sFH hs, by rw [rl.length]; exact hl, h δ δ' σ F H Q xs ds S rl e2 k⟩
  · cases e2
def mAsg (m : M D) (st : DS → D → Option DS) : M Fl := fun δ => (m δ).bind fun d => (st δ d).map .nx
theorem sx_asg {g : TG} {st : DS → D → Option DS} (h : Ex c ta ma) (hg : Gx c g st) : Sx c (tAsg ta g) (mAsg ma st) := fun δ σ F H En fl S e k => by
  obtain ⟨d, e1, e2⟩ := Option.bind_eq_some_iff.mp (show (ma δ).bind (fun d => (st δ d).map Fl.nx) = some fl from e)
  obtain ⟨δ', e3, rfl⟩ := Option.map_eq_some_iff.mp e2
  refine h δ σ F H _ d S e1 fun v F' H' x r => ?_
  exact hg δ δ' σ F' H' _ v d (S.up x) r e3 fun σ' S' => k σ' F' H' S' x.f
/-- x = a new thing -/
def mOwn (i : Nat) (m : M D) : M Fl := fun δ => (m δ).bind fun d => if isOwnD d then some (.nx (δ.set i (SV.own d))) else none
theorem sx_own (i : Nat) (h : Ox c ta ma) : Sx c (tAsg ta (gName i)) (mOwn i ma) := fun δ σ F H En fl S e k => by
  obtain ⟨d, e1, e2⟩ := Option.bind_eq_some_iff.mp (show (ma δ).bind (fun d => if isOwnD d then some (Fl.nx (δ.set i (SV.own d))) else none) = some fl from e)
  split at e2
  · rename_i hd
    cases e2
    refine h δ σ F H _ d S e1 fun a o F' H' x hn ha hf r => ?_
    exact k _ F' H' (S.setOwn x hn ha hf r hd) x.f
  · cases e2
/-- a, b = e1, e2 -/
def mPar (i j : Nat) (m : M (List D)) : M Fl := fun δ => (m δ).bind fun ds => match ds with
  | [d, e] => some (.nx ((δ.set i (SV.fro d)).set j (SV.fro e)))
  | _ => none
theorem sx_par {i j : Nat} {t : TA} {m : M (List D)} (h : Ax c t m) : Sx c (tPar i j t) (mPar i j m) := fun δ σ F H En fl S e k => by
  obtain ⟨ds, e1, e2⟩ := Option.bind_eq_some_iff.mp (show (m δ).bind _ = some fl from e)
  refine h δ σ F H _ ds S e1 fun vs F' H' x r => ?_
  cases r with
  | nil => cases e2
  | cons r1 r =>
    cases r with
    | nil => cases e2
    | cons r2 r =>
      cases r with
      | nil => cases e2; exact ⟨_, _, rfl, k _ F' H' (((S.up x).set r1).set r2) x.f⟩
      | cons _ _ => cases e2
/-- x += e -/
def mAug (i : Nat) (f : D → D → Option D) (m : M D) : M Fl := fun δ => (mFro i δ).bind fun x => (m δ).bind fun y => (f x y).map fun z => .nx (δ.set i (SV.fro z))
theorem sx_aug {i : Nat} {r : R2} {f : D → D → Option D} (hf : OpB c r f) (h : Ex c ta ma) : Sx c (tAug i ta r) (mAug i f ma) := fun δ σ F H En fl S e k => by
  obtain ⟨x, e1, e⟩ := Option.bind_eq_some_iff.mp (show (mFro i δ).bind _ = some fl from e)
  obtain ⟨y, e2, e⟩ := Option.bind_eq_some_iff.mp e
  obtain ⟨z, e3, rfl⟩ := Option.map_eq_some_iff.mp e
  unfold mFro at e1
  split at e1
  · rename_i d q
    cases e1
    obtain ⟨v, h1, h2⟩ := S.fro i _ q
    refine ⟨v, h1, h δ σ F H _ y S e2 fun w F' H' x2 r2 => ?_⟩
    exact hf F' H' v w _ y z _ x2.s ((h2.mono x2.f).mono x2.s) (r2.mono x2.s) e3 fun u F3 H3 x3 r3 => k _ F3 H3 (((S.up x2).up x3).set r3) (x2.f.trans x3.f)
  · cases e1

/-! own lists and dicts -/
def ownLst (i : Nat) (δ : DS) : Option (List D) := match δ[i]? with
  | some (SV.own (.lst ds)) => some ds
  | _ => none
theorem ownLst_ok {i : Nat} {δ : DS} {ds : List D} (h : ownLst i δ = some ds) : δ[i]? = some (SV.own (.lst ds)) := by
  unfold ownLst at h
  split at h
  · rename_i q; cases h; exact q
  · cases h
theorem SR.ownL {K : PySem.W.Frag} {F0 H0 F H : Hp} {σ : St} {δ : DS} (S : SR K F0 H0 F H σ δ) {i : Nat} {ds : List D} (h : δ[i]? = some (SV.own (.lst ds))) :
    ∃ a xs, σ[i]? = some (some (V.ref a)) ∧ H a = some (.lst xs) ∧ RpL K F xs ds := by
  obtain ⟨a, o, h1, h2, h3, h4, h5⟩ := S.own i _ h
  cases h5 with
  | lst r => exact ⟨a, _, h1, h2, r⟩
/-- x.append(e) -/
def mAppend (i : Nat) (m : M D) : M Fl := fun δ => (ownLst i δ).bind fun ds => (m δ).bind fun d => if decide (ds.length < sizeLine) then some (.nx (δ.set i (SV.own (.lst (ds ++ [d]))))) else none
theorem sx_append (i : Nat) (h : Ex c ta ma) : Sx c (tDrop (tBM c.K "list" rAppend (tVar i) (tCons ta tNil))) (mAppend i ma) := fun δ σ F H En fl S e k => by
  obtain ⟨ds, e1, e⟩ := Option.bind_eq_some_iff.mp (show (ownLst i δ).bind _ = some fl from e)
  obtain ⟨d, e2, e⟩ := Option.bind_eq_some_iff.mp e
  split at e
  · rename_i hl
    cases e
    have q := ownLst_ok e1
    obtain ⟨a, xs, h1, h2, rl⟩ := S.ownL q
    refine ⟨.ref a, h1, .inl ⟨rfl, xs, SqL.of h2⟩, ?_⟩
    refine h δ σ F H _ d S e2 fun v F' H' x r => ?_
    obtain ⟨a', xs', h1', h2', rl'⟩ := (S.up x).ownL q
    rw [h1] at h1'; cases h1'
    refine ⟨a, xs', v, rfl, rfl, h2', by rw [rl'.length]; exact of_decide_eq_true hl, ?_⟩
    exact k σ F' _ ((S.up x).change q h1 (.lst (rl'.app (.cons r .nil))) rfl) x.f
  · cases e
/-- y = x.pop() -/
def mPop (i j : Nat) : M Fl := fun δ => (ownLst i δ).bind fun ds => (ds[ds.length - 1]?).bind fun d => some (.nx ((δ.set i (SV.own (.lst ds.dropLast))).set j (SV.fro d)))
theorem sx_pop (i j : Nat) : Sx c (tAsg (tBM0 c.K "list" rPop (tVar i)) (gName j)) (mPop i j) := fun δ σ F H En fl S e k => by
  obtain ⟨ds, e1, e⟩ := Option.bind_eq_some_iff.mp (show (ownLst i δ).bind _ = some fl from e)
  obtain ⟨d, e2, e⟩ := Option.bind_eq_some_iff.mp e
  cases e
  have q := ownLst_ok e1
  obtain ⟨a, xs, h1, h2, rl⟩ := S.ownL q
  obtain ⟨v, h3, r⟩ := rl.get e2
  refine ⟨.ref a, h1, .inl ⟨rfl, xs, SqL.of h2⟩, a, xs, v, rfl, rfl, h2, by rw [rl.length]; exact h3, ?_⟩
  exact k _ F _ ((S.change q h1 (.lst rl.dropLast) rfl).set r) (Same.refl F)
def dHas (ks : List D) (x : D) : Bool := ks.any fun k => beqK k x
def dPutV : List D → List D → D → D → List D
  | k :: ks, v :: vs, x, y => (if beqK k x then y else v) :: dPutV ks vs x y
  | _, _, _, _ => []
def dPutK (ks : List D) (x : D) : List D := if dHas ks x then ks else ks ++ [x]
def dPutW (ks vs : List D) (x y : D) : List D := if dHas ks x then dPutV ks vs x y else vs ++ [y]
theorem any_has {κ : Type} [DecidableEq κ] (g : κ → D) (hg : ∀ a b, beqK (g a) (g b) = decide (a = b)) (k : κ) : ∀ kvs : List (κ × V), dHas (kvs.map fun p => g p.1) (g k) = kvs.any fun kv => decide (kv.1 = k)
  | [] => rfl
  | p :: kvs => by
    have ih := any_has g hg k kvs
    unfold dHas at ih ⊢
    rw [List.map_cons, List.any_cons, List.any_cons, ih, hg]
theorem putK_put {κ : Type} [DecidableEq κ] {K : PySem.W.Frag} {F : Hp} (g : κ → D) (hg : ∀ a b, beqK (g a) (g b) = decide (a = b)) (k : κ) {v : V} {d : D} (r : Rp K F v d) {kvs : List (κ × V)} {vs : List D} (rl : RpL K F (kvs.map (·.2)) vs) :
    (putK kvs k v).map (fun p => g p.1) = dPutK (kvs.map fun p => g p.1) (g k) ∧ RpL K F ((putK kvs k v).map (·.2)) (dPutW (kvs.map fun p => g p.1) vs (g k) d) := by
  unfold putK dPutK dPutW
  rw [any_has g hg k kvs]
  by_cases h : (kvs.any fun kv => decide (kv.1 = k)) = true
  · rw [if_pos h, if_pos h, if_pos h]
    clear h
    constructor
    · rw [List.map_map]
      refine List.map_congr_left fun p _ => ?_
      show g (if p.1 = k then (p.1, v) else p).1 = g p.1
      split <;> rfl
    · induction kvs generalizing vs with
      | nil => cases rl; exact .nil
      | cons p kvs ih =>
        cases rl with
        | cons r1 r2 =>
          simp only [List.map_cons, dPutV, hg]
          refine .cons ?_ (ih r2)
          by_cases e : p.1 = k
          · simp only [e, decide_true, if_true]; exact r
          · simp only [e, decide_false, if_false, Bool.false_eq_true]; exact r1
  · rw [if_neg h, if_neg h, if_neg h, List.map_append, List.map_append]
    exact ⟨rfl, rl.app (.cons r .nil)⟩
/-- x[k] = e, x an own dict -/
def putD (d e y : D) : Option D := match d with
  | .dct false ks vs => (keyD e).map fun k => .dct false (dPutK ks (kD k)) (dPutW ks vs (kD k) y)
  | .dct true ks vs => match e with
    | .tup es => (keysD es).map fun k => .dct true (dPutK ks (.tup (k.map kD))) (dPutW ks vs (.tup (k.map kD)) y)
    | _ => none
  | _ => none
def smallD : D → Bool
  | .dct _ ks _ => decide (ks.length < sizeLine)
  | _ => false
def ownAt (i : Nat) (δ : DS) : Option D := match δ[i]? with
  | some (SV.own d) => some d
  | _ => none
theorem ownAt_ok {i : Nat} {δ : DS} {d : D} (h : ownAt i δ = some d) : δ[i]? = some (SV.own d) := by
  unfold ownAt at h
  split at h
  · rename_i q; cases h; exact q
  · cases h
def mPut (i : Nat) (mk mv : M D) : M Fl := fun δ => (mv δ).bind fun y => (ownAt i δ).bind fun d => (mk δ).bind fun e => if smallD d then (putD d e y).map fun d' => .nx (δ.set i (SV.own d')) else none
theorem sx_put {tk tv : TE} {mk mv : M D} (i : Nat) (hk : Ex c tk mk) (hv : Ex c tv mv) : Sx c (sDPut (tVar i) tk tv) (mPut i mk mv) := fun δ σ F H En fl S e k => by
  obtain ⟨y, e1, f1⟩ := Option.bind_eq_some_iff.mp (show (mv δ).bind _ = some fl from e)
  obtain ⟨d, e2, f2⟩ := Option.bind_eq_some_iff.mp f1
  obtain ⟨x, e3, f3⟩ := Option.bind_eq_some_iff.mp f2
  split at f3
  case isFalse => cases f3
  case isTrue hs =>
  obtain ⟨d', e4, rfl⟩ := Option.map_eq_some_iff.mp f3
  have q := ownAt_ok e2
  refine hv δ σ F H _ y S e1 fun v F1 H1 x1 r1 => ?_
  have S1 := S.up x1
  obtain ⟨a, _, h1, _⟩ := S1.own i d q
  refine ⟨.ref a, h1, ?_⟩
  refine hk δ σ F1 H1 _ x S1 e3 fun w F2 H2 x2 r2 => ?_
  have S2 := S1.up x2
  obtain ⟨a', o, h1', h2, h3, h4, h5⟩ := S2.own i d q
  rw [h1] at h1'; cases h1'
  unfold putD at e4
  split at e4
  · obtain ⟨ky, e5, rfl⟩ := Option.map_eq_some_iff.mp e4
    cases h5 with
    | @dK kvs ks vs hks rl =>
      subst hks
      obtain rfl := rp_key (by rw [← keyD_ok e5]; exact r2)
      obtain ⟨z1, z2⟩ := putK_put kD beqK_key ky (r1.mono x2.f) rl
      have hl : kvs.length < sizeLine := by
        have := of_decide_eq_true hs
        rw [List.length_map] at this
        exact this
      exact ⟨a, _, rfl, DPut.k (k := ky) h2 hl, k σ F2 _ (S2.change q h1 (.dK z1 z2) rfl) (x1.f.trans x2.f)⟩
  · split at e4
    · obtain ⟨ky, e5, rfl⟩ := Option.map_eq_some_iff.mp e4
      cases h5 with
      | @dT kvs ks vs hks rl =>
        subst hks
        obtain ⟨b, xs, rfl, e6, rk⟩ := rp_tup r2
        rw [keysD_ok e5] at rk
        obtain rfl := rp_keys rk
        obtain ⟨z1, z2⟩ := putK_put (fun k : List Key => D.tup (k.map kD)) beqK_tup ky (r1.mono x2.f) rl
        have hl : kvs.length < sizeLine := by
          have := of_decide_eq_true hs
          rw [List.length_map] at this
          exact this
        exact ⟨a, _, rfl, DPut.t (k := ky) h2 (x2.s _ _ e6) hl, k σ F2 _ (S2.change q h1 (.dT z1 z2) rfl) (x1.f.trans x2.f)⟩
    · cases e4
  · cases e4
end
end DL

namespace DL
open PySem PySem.Spec L2

section
variable {c : Cc} {ta tb tc : TE} {ma mb mc : M D}

/-! what is walked -/
structure Its (K : PySem.W.Frag) (J : It) (Fs : Hp) (ds : List D) : Prop where
  go : ∀ i F H, Same Fs F → Same F H → i < ds.length → J.go i H
  stop : ∀ F H, Same Fs F → Same F H → J.stop ds.length H
  yld : ∀ i F H x H' d, Same Fs F → Same F H → ds[i]? = some d → J.yld i H x H' → ∃ F', Ext F H F' H' ∧ Rp K F' x d
def Wx (c : Cc) (wi : TI) (m : M (List D)) : Prop := ∀ (δ : DS) (σ : St) (F H : Hp) (R : It → Hp → Prop) (ds : List D), SR c.K c.F0 c.H0 F H σ δ → m δ = some ds →
  (∀ J F' H', Ext F H F' H' → Its c.K J F' ds → R J H') → wi σ H R
theorem seqL_frz {K : PySem.W.Frag} {F H : Hp} {a : Addr} {xs : List V} (s : Same F H) (h : F a = some (.lst xs)) : SqL K H a xs := SqL.of (s _ _ h)
theorem its_list {K : PySem.W.Frag} {F : Hp} {a : Addr} {xs : List V} {ds : List D} (h : F a = some (.lst xs)) (r : RpL K F xs ds) : Its K (Itl K a) F ds where
  go := fun i F' H s1 s2 hi => by
    have hx : i < xs.length := by rw [r.length]; exact hi
    exact ⟨xs, xs[i], SqL.of (s2 _ _ (s1 _ _ h)), by simp [hx]⟩
  stop := fun F' H s1 s2 => ⟨xs, SqL.of (s2 _ _ (s1 _ _ h)), by rw [r.length]; exact Nat.le_refl _⟩
  yld := fun i F' H x H' d s1 s2 hd hy => by
    obtain ⟨e, hy⟩ := hy
    subst e
    obtain ⟨v, h1, h2⟩ := r.get hd
    have := hy xs (SqL.of (s2 _ _ (s1 _ _ h)))
    rw [h1] at this; cases this
    exact ⟨F', Ext.refl s2, h2.mono s1⟩
theorem its_tup {K : PySem.W.Frag} {F : Hp} {a : Addr} {xs : List V} {ds : List D} (h : SqT K F a xs) (r : RpL K F xs ds) : Its K (Itt K a) F ds where
  go := fun i F' H s1 s2 hi => by
    have hx : i < xs.length := by rw [r.length]; exact hi
    exact ⟨xs, xs[i], same_seqT s2 (same_seqT s1 h), by simp [hx]⟩
  stop := fun F' H s1 s2 => ⟨xs, same_seqT s2 (same_seqT s1 h), by rw [r.length]; exact Nat.le_refl _⟩
  yld := fun i F' H x H' d s1 s2 hd hy => by
    obtain ⟨e, hy⟩ := hy
    subst e
    obtain ⟨v, h1, h2⟩ := r.get hd
    have := hy xs (same_seqT s2 (same_seqT s1 h))
    rw [h1] at this; cases this
    exact ⟨F', Ext.refl s2, h2.mono s1⟩
def mItL (m : M D) : M (List D) := fun δ => (m δ).bind lstD
def mItT (m : M D) : M (List D) := fun δ => (m δ).bind tupD
theorem wx_list (h : Ex c ta ma) : Wx c (iList c.K ta) (mItL ma) := fun δ σ F H R ds S e k => by
  obtain ⟨d, e1, e2⟩ := Option.bind_eq_some_iff.mp (show (ma δ).bind lstD = some ds from e)
  obtain rfl := lstD_ok e2
  refine h δ σ F H _ _ S e1 fun v F' H' x r => ?_
  obtain ⟨a, xs, rfl, h1, rl⟩ := rp_lst r
  exact ⟨a, rfl, ⟨xs, SqL.of (x.s _ _ h1)⟩, k _ F' H' x (its_list h1 rl)⟩
theorem wx_tup (h : Ex c ta ma) : Wx c (iTup c.K ta) (mItT ma) := fun δ σ F H R ds S e k => by
  obtain ⟨d, e1, e2⟩ := Option.bind_eq_some_iff.mp (show (ma δ).bind tupD = some ds from e)
  refine h δ σ F H _ _ S e1 fun v F' H' x r => ?_
  obtain ⟨a, xs, rfl, h1, rl⟩ := tupD_ok r e2
  exact ⟨a, rfl, ⟨xs, same_seqT x.s h1⟩, k _ F' H' x (its_tup h1 rl)⟩
def rangeD (lo : Int) : Nat → List D
  | 0 => []
  | n + 1 => .int lo :: rangeD (lo + 1) n
theorem rangeD_len (lo : Int) (n : Nat) : (rangeD lo n).length = n := by
  induction n generalizing lo with
  | zero => rfl
  | succ n ih => simp [rangeD, ih]
theorem rangeD_get (lo : Int) (n i : Nat) (d : D) (h : (rangeD lo n)[i]? = some d) : d = .int (lo + i) := by
  induction n generalizing lo i with
  | zero => simp [rangeD] at h
  | succ n ih =>
    cases i with
    | zero => simp [rangeD] at h; subst h; simp
    | succ i =>
      simp [rangeD] at h
      have := ih (lo + 1) i h
      rw [this]
      congr 1
      omega
theorem its_range {K : PySem.W.Frag} {F : Hp} (lo : Int) (n : Nat) : Its K (Itr lo n) F (rangeD lo n) where
  go := fun i F' H s1 s2 hi => by rw [rangeD_len] at hi; exact hi
  stop := fun F' H s1 s2 => by rw [rangeD_len]; exact Nat.le_refl _
  yld := fun i F' H x H' d s1 s2 hd hy => by
    obtain ⟨e, hy⟩ := hy
    subst e
    have := rangeD_get lo n i d hd
    subst this hy
    exact ⟨F', Ext.refl s2, .int _⟩
def okI (i : Int) : Bool := decide (-(2 ^ 62) ≤ i) && decide (i < 2 ^ 62)
theorem okI_ok {i : Int} (h : okI i = true) : -(2 ^ 62) ≤ i ∧ i < 2 ^ 62 := by
  unfold okI at h
  simp only [Bool.and_eq_true, decide_eq_true_eq] at h
  exact h
def fRng : List D → Option (List D)
  | [.int j] => if okI j then some (rangeD 0 j.toNat) else none
  | [.int i, .int j] => if okI i && okI j then some (rangeD i (j - i).toNat) else none
  | _ => none
def mRng (m : M (List D)) : M (List D) := fun δ => (m δ).bind fRng
theorem wx_range1 {t : TA} {m : M (List D)} (h : AB c t m) (h1 : ∀ δ ds, m δ = some ds → ds.length = 1) : Wx c (iRng1 t) (mRng m) := fun δ σ F H R ds S e k => by
  obtain ⟨as, e1, e2⟩ := Option.bind_eq_some_iff.mp (show (m δ).bind fRng = some ds from e)
  refine h δ σ F H _ _ S e1 fun vs F' H' x r => ?_
  have hl := h1 δ as e1
  have rh := RBL.h x.s r
  unfold fRng at e2
  split at e2
  · split at e2
    · rename_i j hj
      cases e2
      obtain ⟨q1, q2⟩ := okI_ok hj
      obtain ⟨v, rfl, r1⟩ := rbl1 r
      obtain rfl := rp_int (r1.h x.s)
      exact ⟨j, rfl, q1, q2, k _ F' H' x (its_range _ _)⟩
    · cases e2
  · simp at hl
  · cases e2
theorem wx_range2 {t : TA} {m : M (List D)} (h : AB c t m) (h1 : ∀ δ ds, m δ = some ds → ds.length = 2) : Wx c (iRng2 t) (mRng m) := fun δ σ F H R ds S e k => by
  obtain ⟨as, e1, e2⟩ := Option.bind_eq_some_iff.mp (show (m δ).bind fRng = some ds from e)
  refine h δ σ F H _ _ S e1 fun vs F' H' x r => ?_
  have hl := h1 δ as e1
  unfold fRng at e2
  split at e2
  · simp at hl
  · split at e2
    · rename_i i j hj
      simp only [Bool.and_eq_true] at hj
      cases e2
      obtain ⟨q1, q2⟩ := okI_ok hj.1
      obtain ⟨q3, q4⟩ := okI_ok hj.2
      obtain ⟨v, w, rfl, r1, r2⟩ := rbl2 r
      obtain rfl := rp_int (r1.h x.s)
      obtain rfl := rp_int (r2.h x.s)
      exact ⟨i, j, rfl, ⟨q1, q2, q3, q4⟩, k _ F' H' x (its_range _ _)⟩
    · cases e2
  · cases e2
theorem mCons_len {m : M D} {n : M (List D)} {l : Nat} (h : ∀ δ ds, n δ = some ds → ds.length = l) : ∀ δ ds, mCons m n δ = some ds → ds.length = l + 1 := fun δ ds e => by
  obtain ⟨d, es, _, e2, rfl⟩ := mCons_some e
  rw [List.length_cons, h δ es e2]
theorem mNil_len : ∀ δ ds, mNil δ = some ds → ds.length = 0 := fun δ ds e => by cases e; rfl

/-! for -/
def loopF (st : DS → D → Option DS) (b : M Fl) : List D → DS → Option Fl
  | [], δ => some (.nx δ)
  | d :: ds, δ => match st δ d with
    | none => none
    | some δ1 => match b δ1 with
      | some (.nx δ2) => loopF st b ds δ2
      | some (.ct δ2) => loopF st b ds δ2
      | some (.bk δ2) => some (.nx δ2)
      | some (.rt v) => some (.rt v)
      | none => none
def mFor (m : M (List D)) (st : DS → D → Option DS) (b : M Fl) : M Fl := fun δ => (m δ).bind fun ds => loopF st b ds δ
theorem drop_get {α : Type} {l : List α} {i : Nat} {x : α} {r : List α} (h : l.drop i = x :: r) : l[i]? = some x ∧ l.drop (i + 1) = r ∧ i < l.length := by
  have h1 : i < l.length := by
    cases Nat.lt_or_ge i l.length with
    | inl h => exact h
    | inr h' => rw [List.drop_eq_nil_of_le h'] at h; cases h
  rw [List.drop_eq_getElem_cons h1] at h
  injection h with h2 h3
  exact ⟨by rw [List.getElem?_eq_getElem h1, h2], h3, h1⟩
theorem sx_for {wi : TI} {g : TG} {st : DS → D → Option DS} {tb : TS} {b : M Fl} {m : M (List D)} (hw : Wx c wi m) (hg : Gx c g st) (hb : Sx c tb b) : Sx c (tFor wi g tb) (mFor m st b) := fun δ σ F H En fl S e k => by
  obtain ⟨ds, e1, e2⟩ := Option.bind_eq_some_iff.mp (show (m δ).bind (fun ds => loopF st b ds δ) = some fl from e)
  refine hw δ σ F H _ ds S e1 fun J F1 H1 x1 it => ?_
  refine ⟨fun i n σ H => n = ds.length - i ∧ i ≤ ds.length ∧ ∃ δ' F', SR c.K c.F0 c.H0 F' H σ δ' ∧ Same F1 F' ∧ loopF st b (ds.drop i) δ' = some fl, ⟨ds.length, by simp, Nat.zero_le _, δ, F1, S.up x1, Same.refl _, e2⟩, ?_⟩
  rintro i n σ2 H2 ⟨rfl, hi, δ2, F2, S2, s2, e3⟩
  by_cases hlt : i < ds.length
  · refine .inr ⟨it.go i F2 H2 s2 S2.sFH hlt, ?_⟩
    cases q : ds.drop i with
    | nil =>
      have := congrArg List.length q
      rw [List.length_drop] at this
      simp at this
      omega
    | cons d r =>
      obtain ⟨g1, g2, _⟩ := drop_get q
      rw [q] at e3
      unfold loopF at e3
      refine ⟨fun σ' H' => ∃ δ' F', SR c.K c.F0 c.H0 F' H' σ' δ' ∧ Same F1 F' ∧ loopF st b (ds.drop (i + 1)) δ' = some fl, fun σ' H' ⟨δ', F', z1, z2, z3⟩ => ⟨_, by omega, rfl, hlt, δ', F', z1, z2, z3⟩, fun x H3 y => ?_⟩
      obtain ⟨F3, x3, r3⟩ := it.yld i F2 H2 x H3 d s2 S2.sFH g1 y
      cases q1 : st δ2 d with
      | none => rw [q1] at e3; cases e3
      | some δ3 =>
        rw [q1] at e3
        dsimp only at e3
        refine hg δ2 δ3 σ2 F3 H3 _ x d (S2.up x3) r3 q1 fun σ4 S4 => ?_
        cases q2 : b δ3 with
        | none => rw [q2] at e3; cases e3
        | some f =>
          rw [q2] at e3
          refine hb δ3 σ4 F3 H3 _ f S4 q2 ?_
          have s3 : Same F1 F3 := s2.trans x3.f
          cases f with
          | nx δ5 => exact fun σ' F' H' S' s' => ⟨δ5, F', S', s3.trans s', by rw [g2]; exact e3⟩
          | ct δ5 => exact fun σ' F' H' S' s' => ⟨δ5, F', S', s3.trans s', by rw [g2]; exact e3⟩
          | bk δ5 =>
            cases e3
            exact fun σ' F' H' S' s' => k σ' F' H' S' (x1.f.trans (s3.trans s'))
          | rt v =>
            cases e3
            exact k
  · have e : i = ds.length := by omega
    subst e
    rw [List.drop_length] at e3
    cases e3
    exact .inl ⟨it.stop F2 H2 s2 S2.sFH, k σ2 F2 H2 S2 (x1.f.trans s2)⟩

/-! while -/
def loopW (t : M Bool) (b : M Fl) : Nat → DS → Option Fl
  | 0, _ => none
  | n + 1, δ => match t δ with
    | none => none
    | some false => some (.nx δ)
    | some true => match b δ with
      | some (.nx δ2) => loopW t b n δ2
      | some (.ct δ2) => loopW t b n δ2
      | some (.bk δ2) => some (.nx δ2)
      | some (.rt v) => some (.rt v)
      | none => none
def mWhile (n : Nat) (t : M Bool) (b : M Fl) : M Fl := fun δ => loopW t b n δ
theorem sx_while (n : Nat) {t : TT} {m : M Bool} {tb : TS} {b : M Fl} (ht : Tx c t m) (hb : Sx c tb b) : Sx c (tWhile t tb) (mWhile n m b) := fun δ σ F H En fl S e k => by
  refine ⟨fun i σ H => ∃ δ' F', SR c.K c.F0 c.H0 F' H σ δ' ∧ Same F F' ∧ loopW m b i δ' = some fl, ⟨n, δ, F, S, Same.refl _, e⟩, ?_⟩
  rintro i σ2 H2 ⟨δ2, F2, S2, s2, e2⟩
  cases i with
  | zero => cases e2
  | succ i =>
    unfold loopW at e2
    cases q : m δ2 with
    | none => rw [q] at e2; cases e2
    | some k1 =>
      rw [q] at e2
      refine ht δ2 σ2 F2 H2 _ k1 S2 q fun F3 H3 x3 => ?_
      cases k1 with
      | false =>
        cases e2
        exact iteF (k σ2 F3 H3 (S2.up x3) (s2.trans x3.f))
      | true =>
        refine iteT ⟨fun σ' H' => ∃ δ' F', SR c.K c.F0 c.H0 F' H' σ' δ' ∧ Same F F' ∧ loopW m b i δ' = some fl, fun σ' H' z => ⟨i, Nat.lt_succ_self i, z⟩, ?_⟩
        dsimp only at e2
        cases q2 : b δ2 with
        | none => rw [q2] at e2; cases e2
        | some f =>
          rw [q2] at e2
          refine hb δ2 σ2 F3 H3 _ f (S2.up x3) q2 ?_
          have s3 : Same F F3 := s2.trans x3.f
          cases f with
          | nx δ5 => exact fun σ' F' H' S' s' => ⟨δ5, F', S', s3.trans s', e2⟩
          | ct δ5 => exact fun σ' F' H' S' s' => ⟨δ5, F', S', s3.trans s', e2⟩
          | bk δ5 =>
            cases e2
            exact fun σ' F' H' S' s' => k σ' F' H' S' (s3.trans s')
          | rt v =>
            cases e2
            exact k

/-! comprehensions, one for -/
def loopC (st : DS → D → Option DS) (t : M Bool) (m : M D) (δ : DS) : List D → Option (List D)
  | [] => some []
  | d :: ds => match st δ d with
    | none => none
    | some δ1 => match t δ1 with
      | some true => match m δ1 with
        | some y => (loopC st t m δ ds).map fun r => y :: r
        | none => none
      | some false => loopC st t m δ ds
      | none => none
/-- the slots of a comprehension's own names forgotten -/
def wipeD (δ : DS) : List Nat → DS
  | [] => δ
  | v :: vs => (wipeD δ vs).set v SV.unk
theorem SR.wipes {K : PySem.W.Frag} {F0 H0 F H : Hp} {σ : St} {δ : DS} (S : SR K F0 H0 F H σ δ) : ∀ vs : List Nat, SR K F0 H0 F H (L2.wipe σ vs) (wipeD δ vs)
  | [] => S
  | v :: vs => (SR.wipes S vs).wipe v
/-- a target that stores at the slots vs alone -/
def Gw (c : Cc) (g : TG) (st : DS → D → Option DS) (vs : List Nat) : Prop := ∀ (δ δ' : DS) (σ : St) (F H : Hp) (Q : St → Hp → Prop) (v : V) (d : D), SR c.K c.F0 c.H0 F H (L2.wipe σ vs) δ → Rp c.K F v d → st δ d = some δ' →
  (∀ σ', SR c.K c.F0 c.H0 F H σ' δ' → L2.wipe σ' vs = L2.wipe σ vs → Q σ' H) → g v (L2.wipe σ vs) H Q
theorem gw_name (i : Nat) : Gw c (gName i) (stN i) [i] := fun δ δ' σ F H Q v d S r e k => by
  cases e
  refine k _ (S.set r) ?_
  show (((σ.set i none).set i (some v)).set i none) = σ.set i none
  rw [List.set_set, List.set_set]
def mLc (vs : List Nat) (w : M (List D)) (st : DS → D → Option DS) (t : M Bool) (m : M D) : M D := fun δ => (w δ).bind fun ds => if decide (ds.length < sizeLine) then (loopC st t m (wipeD δ vs) ds).map .lst else none
theorem ox_lc {wi : TI} {g : TG} {st : DS → D → Option DS} {tt : TT} {t : M Bool} {te : TE} {m : M D} {w : M (List D)} {vs : List Nat} (hw : Wx c wi w) (hg : Gw c g st vs) (ht : Tx c tt t) (he : Ex c te m) :
    Ox c (tLc wi g tt te vs) (mLc vs w st t m) := fun δ σ F H Q z S e k => by
  obtain ⟨ds, e1, e2⟩ := Option.bind_eq_some_iff.mp (show (w δ).bind _ = some z from e)
  split at e2
  case isFalse => cases e2
  case isTrue hl =>
  have hl := of_decide_eq_true hl
  obtain ⟨res, e3, rfl⟩ := Option.map_eq_some_iff.mp e2
  refine hw δ σ F H _ ds S e1 fun J F1 H1 x1 it A hA => ?_
  have hFA : F1 A = none := none_of x1.s hA
  have xA : Ext F1 H1 F1 (upd H1 A (.lst [])) := Ext.temp x1.s hA
  refine ⟨fun i n H' => n = ds.length - i ∧ i ≤ ds.length ∧ ∃ F' acc out rst, Ext F1 H1 F' H' ∧ F' A = none ∧ H' A = some (.lst acc) ∧ RpL c.K F' acc out ∧ acc.length ≤ i ∧ loopC st t m (wipeD δ vs) (ds.drop i) = some rst ∧ res = out ++ rst,
    ⟨ds.length, by simp, Nat.zero_le _, F1, [], [], res, xA, hFA, upd_same, .nil, Nat.le_refl _, e3, rfl⟩, ?_⟩
  rintro i n H2 ⟨rfl, hi, F2, acc, out, rst, x2, hF2, hH2, rl, ha, e4, e5⟩
  by_cases hlt : i < ds.length
  · refine .inr ⟨it.go i F2 H2 x2.f x2.s hlt, ?_⟩
    cases q : ds.drop i with
    | nil =>
      have := congrArg List.length q
      rw [List.length_drop] at this
      simp at this
      omega
    | cons d r =>
      obtain ⟨g1, g2, _⟩ := drop_get q
      rw [q] at e4
      unfold loopC at e4
      refine ⟨fun H' => ∃ F' acc out rst, Ext F1 H1 F' H' ∧ F' A = none ∧ H' A = some (.lst acc) ∧ RpL c.K F' acc out ∧ acc.length ≤ i + 1 ∧ loopC st t m (wipeD δ vs) (ds.drop (i + 1)) = some rst ∧ res = out ++ rst, fun H' z => ⟨_, by omega, rfl, hlt, z⟩, fun x H3 y => ?_⟩
      obtain ⟨F3, x3, r3⟩ := it.yld i F2 H2 x H3 d x2.f x2.s g1 y
      have S3 : SR c.K c.F0 c.H0 F3 H3 (L2.wipe σ vs) (wipeD δ vs) := (((S.up x1).up x2).up x3).wipes vs
      have hF3 : F3 A = none := x3.n A _ hF2 hH2 rfl
      have hH3 : H3 A = some (.lst acc) := x3.h A _ hH2
      cases q1 : st (wipeD δ vs) d with
      | none => rw [q1] at e4; cases e4
      | some δ3 =>
        rw [q1] at e4
        dsimp only at e4
        refine hg _ δ3 σ F3 H3 _ x d S3 r3 q1 fun σ4 S4 hw4 => ⟨hw4, ?_⟩
        cases q2 : t δ3 with
        | none => rw [q2] at e4; cases e4
        | some k1 =>
          rw [q2] at e4
          refine ht δ3 σ4 F3 H3 _ k1 S4 q2 fun F5 H5 x5 => ?_
          have hF5 : F5 A = none := x5.n A _ hF3 hH3 rfl
          have hH5 : H5 A = some (.lst acc) := x5.h A _ hH3
          cases k1 with
          | false =>
            refine iteF ⟨F5, acc, out, rst, (x2.trans x3).trans x5, hF5, hH5, (rl.mono x3.f).mono x5.f, by omega, by rw [g2]; exact e4, e5⟩
          | true =>
            dsimp only at e4
            cases q3 : m δ3 with
            | none => rw [q3] at e4; cases e4
            | some yv =>
              rw [q3] at e4
              obtain ⟨rst', e6, e7⟩ := Option.map_eq_some_iff.mp e4
              refine iteT (he δ3 σ4 F5 H5 _ yv (S4.up x5) q3 fun v F6 H6 x6 r6 => ?_)
              have hF6 : F6 A = none := x6.n A _ hF5 hH5 rfl
              have hH6 : H6 A = some (.lst acc) := x6.h A _ hH5
              have hx : Ext F1 H1 F6 H6 := ((x2.trans x3).trans x5).trans x6
              refine ⟨acc, hH6, by omega, F6, acc ++ [v], out ++ [yv], rst', ⟨hx.f, fun b o z => ?_, fun b o z => ?_, hx.n⟩, hF6, upd_same, ((rl.mono x3.f).mono x5.f |>.mono x6.f).app (.cons r6 .nil), by rw [List.length_append]; simp; omega, by rw [g2]; exact e6, by rw [e5, ← e7, List.append_assoc]; rfl⟩
              · rw [upd_ne (ne_of_none z hA)]; exact hx.h b o z
              · rw [upd_ne (ne_of_none z hF6)]; exact hx.s b o z
  · have e : i = ds.length := by omega
    subst e
    rw [List.drop_length] at e4
    cases e4
    rw [List.append_nil] at e5
    subst e5
    refine .inl ⟨it.stop F2 H2 x2.f x2.s, k A _ F2 H2 (x1.trans x2) (ext_none x1 hA).2 hH2 hF2 (.lst rl)⟩
theorem tx_yes : Tx c tYes (fun _ => some true) := fun δ σ F H Q b S e k => by
  cases e
  exact k F H (Ext.refl S.sFH)

/-! a def's body -/
def initD (n : Nat) (ds : List D) : DS := ds.map SV.fro ++ List.replicate (n - ds.length) SV.unk
def runD (n : Nat) (m : M Fl) (ds : List D) : Option D := match m (initD n ds) with
  | some (.rt d) => some d
  | some (.nx _) => some .non
  | _ => none
theorem start_get {K : PySem.W.Frag} {F : Hp} {n : Nat} : ∀ {vs : List V} {ds : List D}, RpL K F vs ds → ∀ (i : Nat) (d : D), (initD n ds)[i]? = some (SV.fro d) → ∃ v, (vs.map some ++ List.replicate (n - vs.length) none)[i]? = some (some v) ∧ Rp K F v d := by
  intro vs ds r i d h
  unfold initD at h
  by_cases hi : i < ds.length
  · rw [List.getElem?_append_left (by rw [List.length_map]; exact hi), List.getElem?_map] at h
    obtain ⟨d', h1, h2⟩ := Option.map_eq_some_iff.mp h
    cases h2
    obtain ⟨v, h3, h4⟩ := r.get h1
    exact ⟨v, by rw [List.getElem?_append_left (by rw [List.length_map, r.length]; exact hi), List.getElem?_map, h3]; rfl, h4⟩
  · rw [List.getElem?_append_right (by rw [List.length_map]; omega)] at h
    have := List.mem_of_getElem? h
    rw [List.mem_replicate] at this
    cases this.2
theorem start_own {n : Nat} {ds : List D} (i : Nat) (d : D) (h : (initD n ds)[i]? = some (SV.own d)) : False := by
  unfold initD at h
  have := List.mem_of_getElem? h
  rcases List.mem_append.mp this with h | h
  · obtain ⟨_, _, e⟩ := List.mem_map.mp h
    cases e
  · have := (List.mem_replicate.mp h).2
    cases this
theorem sr_start {K : PySem.W.Frag} {F H : Hp} {N : List Str} {vs : List V} {ds : List D} (s : Same F H) (r : RpL K F vs ds) : SR K F H F H (L2.start N vs) (initD N.length ds) where
  ext := Ext.refl s
  len := by
    unfold L2.start initD
    rw [List.length_append, List.length_append, List.length_map, List.length_map, List.length_replicate, List.length_replicate, r.length]
  fro := fun i d h => start_get r i d h
  own := fun i d h => (start_own i d h).elim
  nt := fun i d h => (start_own i d h).elim
  dis := fun i j a d e h _ _ _ => (start_own i d h).elim
theorem body_of {X : Cx} {body : List Stmt} {t : TS} {m : M Fl} {N : List Str} {n : Nat} {K : PySem.W.Frag} {vs : List V} {H : Hp} {Q : VK} {E : XK} {r : List D → Option D} (p : PSs X body t) (sx : ∀ F0 H0, Sx ⟨K, F0, H0⟩ t m) (hr : r = runD N.length m) (h : spD K n r vs H Q E) :
    ∃ t, PSs X body t ∧ t { nx := fun _ H' => Q .non H', rt := Q } (L2.start N vs) H := by
  obtain ⟨F, ds, d, s, rl, hl, e, k⟩ := h
  refine ⟨t, p, ?_⟩
  subst hr
  unfold runD at e
  cases q : m (initD N.length ds) with
  | none => rw [q] at e; cases e
  | some fl =>
    rw [q] at e
    refine sx F H (initD N.length ds) _ F H _ fl (sr_start s rl) q ?_
    cases fl with
    | nx δ =>
      cases e
      exact fun σ F' H' S _ => k _ F' H' S.ext .non
    | rt d' =>
      cases e
      exact fun v F' H' x r => k v F' H' x r
    | bk _ => cases e
    | ct _ => cases e
end
end DL

/-! hand rules: sorted of tuples of ints -/
namespace DL
open PySem PySem.Spec L2 PySem.W

/-- the order of lists of ints, by a reckoning that ends in the kernel -/
def lexB : List Int → List Int → Bool
  | [], _ => true
  | _ :: _, [] => false
  | x :: xs, y :: ys => if x < y then true else if y < x then false else lexB xs ys
theorem lexB_iff : ∀ a b : List Int, lexB a b = decide (a ≤ b)
  | [], b => by simp [lexB]
  | x :: xs, [] => by
    have : ¬ (x :: xs ≤ ([] : List Int)) := by simp
    simp [lexB, this]
  | x :: xs, y :: ys => by
    unfold lexB
    rw [lexB_iff xs ys]
    have key : (x :: xs ≤ y :: ys) ↔ (x < y ∨ (x = y ∧ xs ≤ ys)) := by
      rw [List.cons_le_cons_iff]
    by_cases h1 : x < y
    · rw [if_pos h1, decide_eq_true (key.mpr (.inl h1))]
    · rw [if_neg h1]
      by_cases h2 : y < x
      · rw [if_pos h2, decide_eq_false fun q => ?_]
        rcases key.mp q with q | ⟨q, _⟩ <;> omega
      · rw [if_neg h2]
        have e : x = y := by omega
        subst e
        rw [Bool.eq_iff_iff, decide_eq_true_eq, decide_eq_true_eq, key]
        constructor
        · exact fun q => .inr ⟨rfl, q⟩
        · rintro (q | ⟨_, q⟩)
          · omega
          · exact q
def insL (i : List Int) : List (List Int) → List (List Int)
  | [] => [i]
  | j :: js => if lexB i j then i :: j :: js else j :: insL i js
def sortL : List (List Int) → List (List Int)
  | [] => []
  | i :: is => insL i (sortL is)
theorem insL_perm (i : List Int) : ∀ js, (insL i js).Perm (i :: js)
  | [] => List.Perm.refl _
  | j :: js => by
    unfold insL
    split
    · exact List.Perm.refl _
    · exact ((insL_perm i js).cons j).trans (List.Perm.swap i j js)
theorem sortL_perm : ∀ is, (sortL is).Perm is
  | [] => List.Perm.refl _
  | i :: is => (insL_perm i _).trans ((sortL_perm is).cons i)
theorem le_tot (a b : List Int) : a ≤ b ∨ b ≤ a := List.le_total a b
theorem insL_sorted (i : List Int) : ∀ js : List (List Int), js.Pairwise (· ≤ ·) → (insL i js).Pairwise (· ≤ ·)
  | [], _ => List.pairwise_singleton _ _
  | j :: js, h => by
    unfold insL
    rw [lexB_iff]
    obtain ⟨h1, h2⟩ := List.pairwise_cons.mp h
    by_cases hij : i ≤ j
    · rw [decide_eq_true hij, if_pos rfl]
      refine List.pairwise_cons.mpr ⟨fun y hy => ?_, h⟩
      rcases List.mem_cons.mp hy with rfl | hy
      · exact hij
      · exact List.le_trans hij (h1 y hy)
    · rw [decide_eq_false hij, if_neg Bool.false_ne_true]
      have hji : j ≤ i := (le_tot i j).resolve_left hij
      refine List.pairwise_cons.mpr ⟨fun y hy => ?_, insL_sorted i js h2⟩
      rcases List.mem_cons.mp ((insL_perm i js).mem_iff.mp hy) with rfl | hy
      · exact hji
      · exact h1 y hy
theorem sortL_sorted : ∀ is, (sortL is).Pairwise (· ≤ ·)
  | [] => List.Pairwise.nil
  | i :: is => insL_sorted i _ (sortL_sorted is)
theorem sortL_uniq : ∀ {a b : List (List Int)}, a.Perm b → a.Pairwise (· ≤ ·) → b.Pairwise (· ≤ ·) → a = b
  | [], b, p, _, _ => (List.nil_perm.mp p).symm
  | x :: a, b, p, ha, hb => by
    cases b with
    | nil => exact absurd p.length_eq (by simp)
    | cons y b =>
      obtain ⟨h1, h2⟩ := List.pairwise_cons.mp ha
      obtain ⟨h3, h4⟩ := List.pairwise_cons.mp hb
      have e : x = y := by
        have m1 : x ∈ y :: b := p.mem_iff.mp List.mem_cons_self
        have m2 : y ∈ x :: a := p.mem_iff.mpr List.mem_cons_self
        rcases List.mem_cons.mp m1 with e | m1
        · exact e
        rcases List.mem_cons.mp m2 with e | m2
        · exact e.symm
        exact List.le_antisymm (h1 y m2) (h3 x m1)
      subst e
      rw [sortL_uniq (List.Perm.cons_inv p) h2 h4]
abbrev encT (b : List Int) : PyData := .tuple (b.map .int)
theorem dataLe_T : dataLe false encT = fun p q => decide (p ≤ q) := by
  funext p q
  show (!dataLt (encT q) (encT p)) = _
  rw [dataLt_tuple]
  show (!rowLt (q.map .int) (p.map .int)) = _
  rw [dataLt_ints]
  by_cases h : q < p
  · have h' : ¬ p ≤ q := fun r => List.not_lt.mpr r h
    simp [h, h']
  · have h' : p ≤ q := List.not_lt.mp h
    simp [h, h']
theorem merge_sortL (bs : List (List Int)) : bs.mergeSort (dataLe false encT) = sortL bs := by
  rw [dataLe_T]
  refine sortL_uniq ((List.mergeSort_perm bs _).trans (sortL_perm bs).symm) ?_ (sortL_sorted bs)
  have := List.pairwise_mergeSort (le := fun p q : List Int => decide (p ≤ q)) (fun a b c h1 h2 => ?_) (fun a b => ?_) bs
  · exact this.imp fun h => of_decide_eq_true h
  · exact decide_eq_true (List.le_trans (of_decide_eq_true h1) (of_decide_eq_true h2))
  · rcases le_tot a b with h | h
    · rw [decide_eq_true h]; rfl
    · rw [decide_eq_true h]; simp
/-- a tuple of ints, as a value -/
def TupZ (P : Addr → List Int → Prop) (K : PySem.W.Frag) (H : Hp) (v : V) (b : List Int) : Prop := ∃ t, v = .ref t ∧ SqT K H t (b.map V.int) ∧ P t b
def TupU (P : Addr → List Int → Prop) (K : PySem.W.Frag) (H : Hp) (v : Value) (b : List Int) : Prop := ∃ t, v = .ref t ∧ SqT K H t (b.map V.int) ∧ P t b
section
variable {X : Cx} {pins : List (Addr × Obj)} {σ : L2.St} {H : Hp} {s : Shared} {P : Addr → List Int → Prop}
theorem readsAll_ints {h : Heap} : ∀ {vs : List Value} {b : List Int}, Vals (b.map V.int) vs → ReadsAll h vs (b.map .int) []
  | vs, [], r => by cases r; exact .nil
  | vs, i :: b, r => by
    cases r with
    | cons r1 r2 =>
      obtain ⟨t, rfl⟩ := r1
      exact ReadsAll.cons (as := []) (bs := []) (.int i t) (readsAll_ints r2)
theorem tupU_reads (I : Inv X pins σ H s) {h' : Heap} (k : ∀ b o, s.heap.get? b = some o → h'.get? b = some o) {v : Value} {b : List Int} (h : TupU P X.K H v b) : Reads h' v (encT b) [] := by
  obtain ⟨t, rfl, h, _⟩ := h
  obtain ⟨its, r, ⟨o, ho, hc, n, hd⟩, _⟩ := I.tuple h
  exact .tuple (k _ _ ho) hc hd (by simpa using readsAll_ints r)
theorem tup_alike (bs : List (List Int)) : AllAlike (bs.map encT) := AllAlike.of fun b b' => by
  show alike (.tuple _) (.tuple _) = true
  simp only [alike]
  exact alike_ints b b'
theorem tup_sortable {bs : List (List Int)} (h : ∀ b ∈ bs, b ≠ []) : Sortable (bs.map encT) := .inl fun d hd => by
  obtain ⟨b, hb, rfl⟩ := List.mem_map.mp hd
  cases b with
  | nil => exact absurd rfl (h _ hb)
  | cons x r => exact ⟨_, _, rfl⟩
theorem tup_depth (b : List Int) : (encT b).depth ≤ 1 := by
  show PyData.depth (.tuple _) ≤ 1
  simp only [PyData.depth, depth_ints]
  exact Nat.le_refl _
theorem each_of {R : Value → List Int → Prop} : ∀ {vs : List Value} {bs : List (List Int)}, vs.length = bs.length → (∀ (i : Nat) v b, vs[i]? = some v → bs[i]? = some b → R v b) → EachIs R vs bs
  | [], [], _, _ => .nil
  | v :: vs, b :: bs, h, k => .cons (k 0 v b rfl rfl) (each_of (by simpa using h) fun i v b h1 h2 => k (i + 1) v b (by simpa using h1) (by simpa using h2))
/-- the sorted values, as values of the layer -/
theorem each_vals {K : PySem.W.Frag} {H : Hp} {P : Addr → List Int → Prop} : ∀ {out : List Value} {bs : List (List Int)}, EachIs (TupU P K H) out bs → ∃ xs : List V, Vals xs out ∧ Paired (TupZ P K H) xs bs
  | _, _, .nil => ⟨[], .nil, .nil⟩
  | _, _, .cons ⟨t, e, h⟩ r => by
    obtain ⟨xs, h1, h2⟩ := each_vals r
    subst e
    exact ⟨.ref t :: xs, .cons rfl h1, .cons ⟨t, rfl, h⟩ h2⟩
/-- the sort of a new list of tuples of ints, and what the layer knows behind it -/
theorem sort_new {D : Addr} {A : Around} {vs : List Value} {bs : List (List Int)} {E : Value → Shared → Prop} {Q : Value → Shared → Prop} {n : Nat} (I : Inv X pins σ H s) {s1 : Shared} (hu : A.units + 2 < cLine)
    (k : ∀ b o, s.heap.get? b = some o → s1.heap.get? b = some o) (hD : s.heap.objs.size ≤ D) (hos : s1.os = s.os) (hg : s1.gens = s.gens) (ho : s1.heap.get? D = some (PyProof.Rows.seqObj "list" vs.toArray n)) (e : EachIs (TupU P X.K H) vs bs) (hne : ∀ b ∈ bs, b ≠ []) (hl : bs.length ≤ sizeLine)
    (h : ∀ xs s', Paired (TupZ P X.K H) xs (sortL bs) → Inv X pins σ (upd H D (.lst xs)) s' → Q .none s') : wpAny (model X.prog X.w) A (call (.builtin "list.sort") [.ref D]) Q E s1 := by
  refine list_sort_data (enc := encT) (bs := bs) ho e (e.mono fun v b hv => ⟨[], tupU_reads I k hv, List.not_mem_nil⟩) (tup_alike bs) (tup_sortable hne) hl (fun b _ => ?_) fun out hlen ho2 => ?_
  · have := tup_depth b
    omega
  · rw [merge_sortL] at ho2
    obtain ⟨xs, h1, h2⟩ := each_vals ho2
    obtain ⟨c, hc⟩ := PyProof.Rows.sortedHeap_at (vs := vs) (out := out.toArray) ho
    have hn : H D = none := I.hok.fresh hD
    have k2 : ∀ b o, s.heap.get? b = some o → (PyProof.Rows.sortedHeap s1.heap D vs out.toArray).get? b = some o := fun b o q => by
      have hb : b ≠ D := Nat.ne_of_lt (Nat.lt_of_lt_of_le (Heap.lt_size q) hD)
      exact (PyProof.Rows.sortedHeap_old hb (Heap.lt_size (k b o q))).trans (k b o q)
    have hz : xs.length ≤ sizeLine := by
      rw [h2.length, (sortL_perm bs).length_eq]; exact hl
    have J : Inv X pins σ (upd H D (.lst xs)) { s with heap := PyProof.Rows.sortedHeap s1.heap D vs out.toArray, gens := s.gens, drawn := s1.drawn, toks := s1.toks } :=
      I.call (ch := []) (Un.laid k2 hD hn) (I.hok.laid k2 hD ⟨hz, out, c, h1, hc⟩) I.bare (fun _ z => nomatch z)
    refine h xs _ h2 ?_
    have e2 : ({ s1 with heap := PyProof.Rows.sortedHeap s1.heap D vs out.toArray } : Shared) = { s with heap := PyProof.Rows.sortedHeap s1.heap D vs out.toArray, gens := s.gens, drawn := s1.drawn, toks := s1.toks } := by
      cases s1
      cases s
      cases hos
      cases hg
      rfl
    rw [e2]
    exact J
end
section
variable {X : Cx} {P : Addr → List Int → Prop}
/-- sorted(xs), xs a list of tuples of ints, none empty -/
def rSortedZ (K : PySem.W.Frag) : List V → Hp → VK → Prop := fun vs H Q => ∃ (P : Addr → List Int → Prop) (a : Addr) (ys : List V) (bs : List (List Int)), vs = [V.ref a] ∧ SqL K H a ys ∧ Paired (TupZ P K H) ys bs ∧ (∀ b ∈ bs, b ≠ []) ∧
  ∀ (xs : List V) (p : Addr), Paired (TupZ P K H) xs (sortL bs) → H p = none → Q (.ref p) (upd H p (.lst xs))
theorem pair_each {K : PySem.W.Frag} {H : Hp} {P : Addr → List Int → Prop} : ∀ {ys : List V} {us : List Value} {bs : List (List Int)}, Vals ys us → Paired (TupZ P K H) ys bs → EachIs (TupU P K H) us bs
  | _, _, _, .nil, .nil => .nil
  | _, _, _, .cons r rs, .cons ⟨t, e, h⟩ hs => by
    subst e
    cases r
    exact .cons ⟨t, rfl, h⟩ (pair_each rs hs)
theorem cr_sortedZ (hu1 : X.A.units + 64 < cLine) : CallR X (.builtin "sorted") (rSortedZ X.K) := by
  intro pins s σ H vs us Q I r h
  obtain ⟨P, a, ys, bs, rfl, hs, hp, hne, q⟩ := h
  obtain ⟨its, rv, hl, hz⟩ := I.list hs
  rw [Vals.ref1 r]
  have e := pair_each rv hp
  have hlen : bs.length ≤ sizeLine := by rw [← hp.length]; exact hz
  refine sorted_data (enc := encT) (bs := bs) hl.isList e (e.mono fun v b hv => ⟨[], tupU_reads I (fun _ _ q => q) hv⟩) (tup_alike bs) (tup_sortable hne) hlen (fun b _ => ?_) fun out _ ho => ?_
  · have := tup_depth b
    have := hu1
    omega
  · rw [merge_sortL] at ho
    obtain ⟨xs, h1, h2⟩ := each_vals ho
    obtain ⟨ep, he'⟩ := PyProof.Rows.sortedAll_at s.heap its out.toArray
    have hx : xs.length ≤ sizeLine := by
      rw [h2.length, (sortL_perm bs).length_eq]; exact hlen
    exact ⟨.ref _, upd H (s.heap.objs.size + 1) (.lst xs), I.laid (t' := s.toks) (fun _ _ => PyProof.Rows.sortedAll_old) (Nat.le_succ _) ⟨hx, out, ep, h1, he'⟩, rfl, q xs _ h2 (I.hok.fresh (Nat.le_succ _))⟩
/-- sorted(d), the keys of d tuples of ints, none empty -/
def rSortedTD (K : PySem.W.Frag) : List V → Hp → VK → Prop := fun vs H Q => ∃ (a : Addr) (kvs : List (List Key × V)) (bs : List (List Int)), vs = [V.ref a] ∧ H a = some (.dT kvs) ∧ kvs.map (·.1) = bs.map (fun b => b.map Sum.inl) ∧ (∀ b ∈ bs, b ≠ []) ∧
  ∀ (xs : List V) (p : Addr), Paired (TupZ (fun t b => H t = some (.tup (b.map V.int))) K H) xs (sortL bs) → H p = none → Q (.ref p) (upd H p (.lst xs))
theorem map_kV_inl (b : List Int) : (b.map (Sum.inl : Int → Key)).map kV = b.map V.int := by
  rw [List.map_map]; rfl
theorem keys_each {K : PySem.W.Frag} {H : Hp} {f : Addr → Value → V → Prop} : ∀ {kvs : List (List Key × V)} {ks : List (List Key × Addr × Value)} {bs : List (List Int)}, Paired (fun (p : List Key × V) (q : List Key × Addr × Value) => p.1 = q.1 ∧ H q.2.1 = some (.tup (p.1.map kV)) ∧ RelV p.2 q.2.2) kvs ks →
    kvs.map (·.1) = bs.map (fun b => b.map Sum.inl) → EachIs (TupU (fun t b => H t = some (.tup (b.map V.int))) K H) (ks.map fun x => Value.ref x.2.1) bs
  | [], _, [], .nil, _ => .nil
  | [], _, _ :: _, .nil, e => by simp at e
  | _ :: _, _, [], .cons _ _, e => by simp at e
  | p :: kvs, _, b :: bs, .cons ⟨e1, e2, _⟩ r, e => by
    rw [List.map_cons, List.map_cons] at e
    injection e with e3 e4
    rw [e3, map_kV_inl] at e2
    exact .cons ⟨_, rfl, SqT.of e2, e2⟩ (keys_each (f := f) r e4)
theorem cr_sortedTD (hc : X.calm = true) (hu : X.A.units + 64 < cLine) : CallR X (.builtin "sorted") (rSortedTD X.K) := by
  intro pins s σ H vs us Q I r h
  obtain ⟨a, kvs, bs, rfl, hd, hk, hne, q⟩ := h
  rw [Vals.ref1 r]
  obtain ⟨z, hs, ks, pr, o, es, ep, ho, hx, hdt, he, hn⟩ := (show ObjOk X.prog X.w H s.heap a (.dT kvs) from I.hok a _ hd)
  have l2 : kvs.length = ks.length := Paired.length pr
  have l1 : es.size = ks.length := size_of_entries he
  have l3 : bs.length = kvs.length := by
    have := congrArg List.length hk
    rw [List.length_map, List.length_map] at this
    exact this.symm
  refine Calls.call_function_entry PyProof.Rows.kind_sorted PyProof.Rows.plain_sorted PyProof.Rows.entry_sorted (PyProof.Rows.args_sorted1 _) ?_
  unfold Builtin.«sorted»
  refine wpAny_bind (m := checkCount "sorted" 1 1 _) (wpAny_pure ?_)
  refine wpAny_bind (PySem.W.kdu_collect (A := X.A.in1) (kdl_raw hs hx hdt) (I.ok.hd hc) ho (by omega) fun h' tk acc kp it => ?_)
  have ea : acc.toList = ks.map fun x => Value.ref x.2.1 := by
    refine List.ext_getElem? fun j => ?_
    have hl : acc.toList.length = ks.length := by rw [Array.length_toList, it.1]; exact l1
    cases hj : acc.toList[j]? with
    | none =>
      have h1 := List.getElem?_eq_none_iff.mp hj
      rw [List.getElem?_eq_none (by rw [List.length_map]; omega)]
    | some v =>
      obtain ⟨en, hen, hv⟩ := it.2 j v (by rw [← Array.getElem?_toList]; exact hj)
      have qe := entry_at he j
      rw [hen] at qe
      cases hb : ks[j]? with
      | none => rw [hb] at qe; cases qe
      | some x =>
        rw [hb] at qe
        have qe := Option.some.inj qe
        rw [List.getElem?_map, hb, hv, qe]
        rfl
  have hl : acc.toList.length ≤ sizeLine := by rw [ea, List.length_map]; omega
  refine wpAny_bind (wpAny_newList ?_ hl)
  have e := keys_each (K := X.K) (f := fun _ _ _ => True) pr hk
  rw [← ea] at e
  have I2 : Inv X pins σ H { s with heap := h', toks := tk } := I.kept (t' := tk) kp
  refine wpAny_bind (wpAny_holding (sort_new (D := h'.objs.size) (n := 0) (P := fun t b => H t = some (.tup (b.map V.int))) I2 (bs := bs) (vs := acc.toList) ?_ (fun b o q => Heap.get?_push_of_some _ q) (Nat.le_refl _) rfl rfl (Heap.get?_push_size _ rfl) e hne (by omega) fun xs s' h1 J => ?_))
  · show X.A.units + 1 + 2 < cLine
    omega
  · exact wpAny_pure ⟨_, rfl, .ref _, _, J, rfl, q xs _ h1 (I2.hok.fresh (Nat.le_refl _))⟩
end
end DL

/-! hand rules: tuples whose object is known, index -/
namespace DL
open PySem PySem.Spec L2

section
variable {X : Cx}
/-- tuple(xs), the new tuple's object known -/
theorem call_tupleF : CallR X (.type "tuple") (fun xs H Q => ∃ p ys, xs = [.ref p] ∧ SqL X.K H p ys ∧ ∀ l o, H l = none → o.cls = .type "tuple" → o.dict = none → Q (.ref l) (upd H l (.frz o (.tup ys)))) := by
  intro pins s σ H xs us Q I r h
  obtain ⟨p, ys, rfl, hq, q⟩ := h
  obtain ⟨u, rfl, rx⟩ := vals1 r
  cases rx
  obtain ⟨its, rv, pl, hz⟩ := I.list hq
  have hl := rv.length
  refine PySem.call_tuple_list pl.isList (fun h' kp => ?_) (by simp only [List.size_toArray]; omega)
  have J : Inv X pins σ H { s with heap := h' } := I.kept (t' := s.toks) kp
  have hg : (h'.push { cls := .type "tuple", data := .seq its.toArray }).get? h'.objs.size = some { cls := .type "tuple", data := .seq its.toArray } := Heap.get?_push_size _ rfl
  refine ⟨.ref h'.objs.size, _, J.laid (t' := s.toks) (fun b o e => Heap.get?_push_of_some _ e) (Nat.le_refl _) (o := .frz { cls := .type "tuple", data := .seq its.toArray } (.tup ys)) (show ObjOk X.prog X.w _ _ _ (.frz _ (.tup ys)) from ⟨hg, hz, its, rv, ⟨_, hg, rfl, _, rfl⟩⟩), rfl, q _ _ (J.hok.fresh (Nat.le_refl _)) rfl rfl⟩
/-- a method of a locked object of a built-in type -/
def tBMF (T : String) (r : V → List V → Hp → VK → Prop) (to : TE) (t : TA) : TE := fun σ H Q => to σ H fun x H1 => (∃ a ob u, x = .ref a ∧ H1 a = some (.frz ob u) ∧ ob.cls = .type T ∧ ob.dict = none) ∧ t σ H1 fun xs H2 => r x xs H2 Q
theorem pe_bmF {o e : Expr} {es : List Expr} {to : TE} {t : TA} {name : Str} {apos cpos : Pos} {T id : String} {r : V → List V → Hp → VK → Prop} (h1 : PlainAttrs T) (h2 : Slot T name id) (h3 : typeOf (.builtin id) = pure (.type "method_descriptor")) (hm : MtR X id r) (ho : PE X o to) (ha : PA X (e :: es) t)
    (hbase : attributeBase o name X.env (eval o X.env) = eval o X.env := by rfl)
    (hfew : ((backTo cpos (starEach (e :: es) X.env)).all (fun x => !x.1) && (backToKw cpos (keywordEach [] X.env)).all (fun x => x.1.isSome) && decide ((e :: es).length + ([] : List Keyword).length + (if ([] : List Keyword).isEmpty then 0 else 1) < 30)) = true := by rfl)
    (hline : (apos.endLine == cpos.line) = true := by rfl) (hs : starEach (e :: es) X.env = (false, eval e X.env) :: starEach es X.env := by rfl) (hpl : (backTo cpos (starEach es X.env)).any (·.1) = false := by rfl) :
    PE X (.Call (.Attribute o name apos) (e :: es) [] cpos) (tBMF T r to t) := by
  refine ⟨fun pins s σ H Q I h => ?_⟩
  refine wpAny_Call_method_late hbase hfew hline rfl (thn (ho.run pins s σ H _ I h) fun v s1 ⟨x, H1, I1, r1, ⟨a, ob, u, e1, e2, e3, e4⟩, h2'⟩ => ?_)
  subst e1
  cases r1
  have hg : s1.heap.get? a = some ob := (show ObjOk X.prog X.w H1 s1.heap a (.frz ob u) from I1.hok a _ e2).1
  refine ⟨T, id, h1, h2, h3, ⟨ob, hg, e3⟩, fun b hb => by cases hb; exact ⟨ob, hg, e4⟩, ?_⟩
  refine PyProof.Rows.callWith_method1 (thn (ha.run cpos pins s1 σ H1 _ I1 h2') fun us s2 ⟨vs, H2, I2, r2, q⟩ => ?_) hs hpl
  exact hm pins s2 σ H2 (.ref a) vs (.ref a) us Q I2 rfl r2 q
/-- t.index(i), t a tuple of ints, i there -/
def rTIdx (K : PySem.W.Frag) : V → List V → Hp → VK → Prop := fun x xs H Q => ∃ (a : Addr) (ns : List Int) (i : Int), x = .ref a ∧ xs = [.int i] ∧ SqT K H a (ns.map V.int) ∧ i ∈ ns ∧ Q (.int (ns.idxOf i : Nat)) H
theorem vals_ints : ∀ {ns : List Int} {vs : List Value}, Vals (ns.map V.int) vs → PyProof.Rows.IntsAre vs ns
  | [], _, r => by cases r; exact .nil
  | n :: ns, _, r => by
    cases r with
    | cons r1 r2 =>
      obtain ⟨t, rfl⟩ := r1
      exact .cons n t (vals_ints r2)
theorem mt_tidx : MtR X "tuple.index" (rTIdx X.K) := by
  intro pins s σ H x xs v us Q I r rs h
  obtain ⟨a, ns, i, rfl, rfl, hq, hi, q⟩ := h
  cases r
  obtain ⟨u, rfl, rx⟩ := vals1 rs
  obtain ⟨t, rfl⟩ := rx
  obtain ⟨its, rv, pt, hz⟩ := I.tuple hq
  refine PySem.SeqAt.tuple_index_ints (ns := ns) pt (vals_ints rv) hi ?_
  exact ⟨.int _, H, I.kept (t' := s.toks + 1) (fun _ _ e => e), ⟨_, rfl⟩, q⟩
end
end DL

namespace DL
open PySem PySem.Spec L2

section
variable {c : Cc} {ta tb tc : TE} {ma mb mc : M D}
/-- tuple(xs), its object known -/
theorem cb_tupleF : CB c (fun xs H Q => ∃ p ys, xs = [.ref p] ∧ SqL c.K H p ys ∧ ∀ l o, H l = none → o.cls = .type "tuple" → o.dict = none → Q (.ref l) (upd H l (.frz o (.tup ys)))) (f1 fun d => (lstD d).map D.ftup) := fun F H vs ds z Q s r h k => by
  obtain ⟨d, rfl, h⟩ := f1_some h
  obtain ⟨es, h1, rfl⟩ := Option.map_eq_some_iff.mp h
  obtain rfl := lstD_ok h1
  obtain ⟨v, rfl, r1⟩ := rbl1 r
  obtain ⟨a, xs, rfl, e, rl⟩ := r1.lst s
  refine ⟨a, xs, rfl, SqL.of e, fun p o hp e1 e2 => ?_⟩
  have x2 : Ext F H (upd F p (.frz o (.tup xs))) (upd H p (.frz o (.tup xs))) := Ext.laid s hp
  exact k _ _ _ x2 (.obj upd_same (.ftup e1 e2 (rl.mono x2.f)))
/-- t.index(i) -/
def fTIdx (d e : D) : Option D := match d, e with
  | .ftup ds, .int i => (intsD ds).bind fun is => if is.contains i then some (.int (is.idxOf i : Nat)) else none
  | _, _ => none
theorem ex_tidx (ha : Ex c ta ma) (hb : Ex c tb mb) : Ex c (tBMF "tuple" (rTIdx c.K) ta (tCons tb tNil)) (m2 fTIdx ma mb) := fun δ σ F H Q z S e k => by
  obtain ⟨d1, d2, e1, e2, e3⟩ := m2_some e
  unfold fTIdx at e3
  split at e3
  · rename_i ds i
    obtain ⟨is, e4, e5⟩ := Option.bind_eq_some_iff.mp e3
    split at e5
    · rename_i hi
      cases e5
      refine ha δ σ F H _ _ S e1 fun x F1 H1 x1 r1 => ?_
      obtain ⟨a, ob, xs, rfl, h1, h2, h3, rl⟩ := rp_ftup r1
      refine ⟨⟨a, ob, _, rfl, x1.s _ _ h1, h2, h3⟩, ?_⟩
      refine hb δ σ F1 H1 _ _ (S.up x1) e2 fun y F2 H2 x2 r2 => ?_
      obtain rfl := rp_int r2
      obtain ⟨rfl, _⟩ := ints_ok rl e4
      exact ⟨a, is, i, rfl, rfl, sqt_frz (x2.s _ _ (x2.f _ _ h1)), by simpa using hi, k _ F2 H2 (x1.trans x2) (.int _)⟩
    · cases e5
  · cases e3
/-- len of a dict whose keys are tuples -/
def fLenT (d : D) : Option D := match d with
  | .dct true ks _ => some (.int ks.length)
  | _ => none
theorem cb_lenT : CB c rLenT (f1 fLenT) := fun F H vs ds z Q s r h k => by
  obtain ⟨d, rfl, h0⟩ := f1_some h
  clear h
  obtain ⟨v, rfl, r1⟩ := rbl1 r
  unfold fLenT at h0
  split at h0
  · cases h0
    obtain ⟨a, kvs, rfl, e, e2, rl⟩ := r1.dT s
    refine ⟨a, kvs, rfl, e, ?_⟩
    subst e2
    rw [List.length_map] at k
    exact k _ F H (Ext.refl s) (.int _)
  · cases h0
/-- isinstance where the answer is one for all values of a kind -/
def fIsi (kd : D → Bool) (cd : D → Bool) (b : Bool) : List D → Option D
  | [d, e] => if kd d && cd e then some (.bl b) else none
  | _ => none
theorem cb_isi {kd cd : D → Bool} {b : Bool} {t u : Value} (h1 : ∀ F d v, kd d = true → Rp c.K F v d → TyX c.K F v t) (h2 : ∀ F e v, cd e = true → Rp c.K F v e → ClsV v u) (h3 : PySem.W.kitOne c.K t u = some b) : CB c (rIsi c.K) (fIsi kd cd b) := fun F H vs ds z Q s r h k => by
  unfold fIsi at h
  split at h
  · rename_i d e
    split at h
    · rename_i hq
      cases h
      obtain ⟨q1, q2⟩ := (Bool.and_eq_true _ _).mp hq
      obtain ⟨v, w, rfl, r1, r2⟩ := rbl2 r
      exact ⟨v, w, t, u, b, rfl, h2 H e w q2 (r2.h s), h1 H d v q1 (r1.h s), h3, k _ F H (Ext.refl s) (.bl _)⟩
    · cases h
  · cases h
def isIntD : D → Bool
  | .int _ => true
  | _ => false
def isTupD : D → Bool
  | .tup _ => true
  | .ftup _ => true
  | _ => false
def isInsD (C : Addr) : D → Bool
  | .ins C' _ _ => C' == C
  | _ => false
def isTyD (n : String) : D → Bool
  | .ty m => m == n
  | _ => false
def isCstD (a : Addr) : D → Bool
  | .cst b => b == a
  | _ => false
theorem tyx_int {K : PySem.W.Frag} : ∀ F d v, isIntD d = true → Rp K F v d → TyX K F v (.type "int") := fun F d v h r => by
  cases d <;> first
    | (obtain rfl := rp_int r; exact .base (.int _))
    | cases h
theorem tyx_tup {K : PySem.W.Frag} : ∀ F d v, isTupD d = true → Rp K F v d → TyX K F v (.type "tuple") := fun F d v h r => by
  cases d <;> first
    | (obtain ⟨a, xs, rfl, e, _⟩ := rp_tup r; exact .base (.tup e))
    | (obtain ⟨a, ob, xs, rfl, e, _⟩ := rp_ftup r; exact .fTuple e)
    | cases h
theorem tyx_ins {K : PySem.W.Frag} {C : Addr} (h1 : Cls K C) (h2 : PySem.W.findIn K (.ref C) "__class__" = some (some (.builtin "object.__class__"))) (h3 : PySem.W.specialIn K (.builtin "object.__class__") "__get__" = some (some (.builtin "getset_descriptor.__get__")))
    (h4 : PySem.W.takesIn K (.builtin "object.__class__") = some true) (h5 : PySem.W.mroIn K C (.type "object") = some true) : ∀ F d v, isInsD C d = true → Rp K F v d → TyX K F v (.ref C) := fun F d v h r => by
  cases d with
  | ins C' ns vs =>
    obtain ⟨a, dx, fs, rfl, e, _, _⟩ := rp_ins r
    obtain rfl : C' = C := by simpa [isInsD] using h
    exact .base (.ins e h1 h2 h3 h4 h5)
  | _ => cases h
theorem cls_ty {K : PySem.W.Frag} {n : String} : ∀ F e v, isTyD n e = true → Rp K F v e → ClsV v (.type n) := fun F e v h r => by
  cases e with
  | ty m =>
    obtain rfl : m = n := by simpa [isTyD] using h
    cases r with
    | ty _ => exact .ty _
    | obj _ r => cases r
  | _ => cases h
theorem cls_own {K : PySem.W.Frag} {a : Addr} : ∀ F e v, isCstD a e = true → Rp K F v e → ClsV v (.ref a) := fun F e v h r => by
  cases e with
  | cst m =>
    obtain rfl : m = a := by simpa [isCstD] using h
    cases r with
    | cst _ => exact .own _
    | obj _ r => cases r
  | _ => cases h
/-- a + b, tuples -/
def fCat (d e : D) : Option D := (tupD d).bind fun ds => (tupD e).bind fun es => if decide (ds.length + es.length ≤ sizeLine) then (if ds.isEmpty then some e else if es.isEmpty then some d else some (.tup (ds ++ es))) else none
theorem op_cat' : OpF c (rCatA c.K) fCat := fun F H x y d e z Q s r1 r2 h k => by
  unfold fCat at h
  obtain ⟨ds, h1, h⟩ := Option.bind_eq_some_iff.mp h
  obtain ⟨es, h2, h⟩ := Option.bind_eq_some_iff.mp h
  split at h
  · rename_i hl
    obtain ⟨a, xs, rfl, q1, rl1⟩ := tupD_ok r1 h1
    obtain ⟨b, ys, rfl, q2, rl2⟩ := tupD_ok r2 h2
    have hl := of_decide_eq_true hl
    refine ⟨a, b, xs, ys, rfl, rfl, same_seqT s q1, same_seqT s q2, by rw [rl1.length, rl2.length]; exact hl, fun e1 => ?_, fun e1 e2 => ?_, fun e1 e2 p hp => ?_⟩
    · subst e1; cases rl1
      cases h
      exact k _ F H (Ext.refl s) r2
    · subst e2; cases rl2
      cases ds with
      | nil => cases rl1; exact absurd rfl e1
      | cons d1 ds => cases h; exact k _ F H (Ext.refl s) r1
    · cases ds with
      | nil => cases rl1; exact absurd rfl e1
      | cons d1 ds =>
        cases es with
        | nil => cases rl2; exact absurd rfl e2
        | cons d2 es =>
          cases h
          have x2 : Ext F H (upd F p (.tup (xs ++ ys))) (upd H p (.tup (xs ++ ys))) := Ext.laid s hp
          exact k _ _ _ x2 (.obj upd_same (.tup ((rl1.app rl2).mono x2.f)))
  · cases h
/-- tuples of ints of a list -/
def zD : D → Option (List Int)
  | .tup ds => match intsD ds with
    | some (i :: is) => some (i :: is)
    | _ => none
  | _ => none
def zsD : List D → Option (List (List Int))
  | [] => some []
  | d :: ds => (zD d).bind fun b => (zsD ds).map fun bs => b :: bs
def tupI (b : List Int) : D := .tup (b.map D.int)
theorem zD_ok {d : D} {b : List Int} (h : zD d = some b) : ∃ ds, d = .tup ds ∧ intsD ds = some b ∧ b ≠ [] := by
  cases d with
  | tup ds =>
    unfold zD at h
    simp only at h
    split at h
    · rename_i i is q; cases h; exact ⟨ds, rfl, q, by simp⟩
    · cases h
  | _ => cases h
theorem zs_ok {K : PySem.W.Frag} {F H : Hp} (s : Same F H) : ∀ {ds : List D} {vs : List V} {bs : List (List Int)}, RpL K F vs ds → zsD ds = some bs → Paired (TupZ (fun t b => F t = some (.tup (b.map V.int))) K H) vs bs ∧ ∀ b ∈ bs, b ≠ []
  | [], _, _, r, h => by cases h; cases r; exact ⟨.nil, fun b hb => by cases hb⟩
  | d :: ds, _, _, r, h => by
    obtain ⟨b, h1, h2⟩ := Option.bind_eq_some_iff.mp (show ((zD d).bind fun b => (zsD ds).map fun bs => b :: bs) = some _ from h)
    obtain ⟨bs, h3, h4⟩ := Option.map_eq_some_iff.mp h2
    subst h4
    cases r with
    | cons r1 r2 =>
      obtain ⟨es, rfl, h5, h6⟩ := zD_ok h1
      obtain ⟨a, xs, rfl, e, rl⟩ := rp_tup r1
      obtain ⟨rfl, _⟩ := ints_ok rl h5
      obtain ⟨q1, q2⟩ := zs_ok s r2 h3
      refine ⟨.cons ⟨a, rfl, SqT.of (s _ _ e), e⟩ q1, fun y hy => ?_⟩
      rcases List.mem_cons.mp hy with rfl | hy
      · exact h6
      · exact q2 y hy
theorem paired_rp {K : PySem.W.Frag} {F H : Hp} : ∀ {vs : List V} {bs : List (List Int)}, Paired (TupZ (fun t b => F t = some (.tup (b.map V.int))) K H) vs bs → RpL K F vs (bs.map tupI)
  | _, _, .nil => .nil
  | _, _, .cons ⟨t, e, _, h⟩ r => by
    subst e
    exact .cons (.obj h (.tup (rpl_ints _))) (paired_rp r)
def fSortedZ (d : D) : Option D := (lstD d).bind fun ds => (zsD ds).map fun bs => .lst ((sortL bs).map tupI)
theorem co_sortedZ : CO c (rSortedZ c.K) (f1 fSortedZ) := fun F H vs ds z Q s r h k => by
  obtain ⟨d, rfl, h⟩ := f1_some h
  obtain ⟨es, h1, h⟩ := Option.bind_eq_some_iff.mp h
  obtain ⟨bs, h2, rfl⟩ := Option.map_eq_some_iff.mp h
  obtain rfl := lstD_ok h1
  obtain ⟨v, rfl, r1⟩ := rbl1 r
  obtain ⟨a, xs, rfl, e, rl⟩ := r1.lst s
  obtain ⟨q1, q2⟩ := zs_ok s rl h2
  exact ⟨_, a, xs, bs, rfl, SqL.of e, q1, q2, fun ys p hy hp => k p _ F _ (Ext.temp s hp) hp upd_same (none_of s hp) (.lst (paired_rp hy))⟩
theorem freeze_all {K : PySem.W.Frag} : ∀ {vs : List V} {bs : List (List Int)} {F H : Hp}, Same F H → Paired (TupZ (fun t b => H t = some (.tup (b.map V.int))) K H) vs bs → ∃ F', Ext F H F' H ∧ RpL K F' vs (bs.map tupI)
  | _, _, F, H, s, .nil => ⟨F, Ext.refl s, .nil⟩
  | _, _, F, H, s, .cons ⟨t, e, _, h⟩ r => by
    subst e
    obtain ⟨F1, x1, h1⟩ := Ext.tup s h
    obtain ⟨F2, x2, h2⟩ := freeze_all x1.s r
    exact ⟨F2, x1.trans x2, .cons (.obj (x2.f _ _ h1) (.tup (rpl_ints _))) h2⟩
theorem intsD_keys : ∀ {k : List Key} {b : List Int}, intsD (k.map kD) = some b → k = b.map Sum.inl
  | [], b, h => by cases h; rfl
  | .inl i :: k, b, h => by
    obtain ⟨us, h3, rfl⟩ := Option.map_eq_some_iff.mp (show (intsD (k.map kD)).map (fun is => i :: is) = some b from h)
    rw [intsD_keys h3]; rfl
  | .inr x :: k, b, h => by cases h
theorem zs_keys : ∀ {kvs : List (List Key × V)} {bs : List (List Int)}, zsD (kvs.map fun p => D.tup (p.1.map kD)) = some bs → kvs.map (·.1) = bs.map (fun b => b.map Sum.inl) ∧ ∀ b ∈ bs, b ≠ []
  | [], bs, h => by cases h; exact ⟨rfl, fun b hb => by cases hb⟩
  | p :: kvs, bs, h => by
    obtain ⟨b, h1, h2⟩ := Option.bind_eq_some_iff.mp (show ((zD (D.tup (p.1.map kD))).bind fun b => (zsD (kvs.map fun p => D.tup (p.1.map kD))).map fun bs => b :: bs) = some bs from h)
    obtain ⟨us, h3, rfl⟩ := Option.map_eq_some_iff.mp h2
    obtain ⟨es, e1, h5, h6⟩ := zD_ok h1
    cases e1
    obtain ⟨q1, q2⟩ := zs_keys h3
    refine ⟨by rw [List.map_cons, List.map_cons, q1, intsD_keys h5], fun y hy => ?_⟩
    rcases List.mem_cons.mp hy with rfl | hy
    · exact h6
    · exact q2 y hy
/-- sorted(d), the keys tuples of ints -/
def fSortedTD (d : D) : Option D := match d with
  | .dct true ks _ => (zsD ks).map fun bs => .lst ((sortL bs).map tupI)
  | _ => none
theorem co_sortedTD : CO c (rSortedTD c.K) (f1 fSortedTD) := fun F H vs ds z Q s r h k => by
  obtain ⟨d, rfl, h0⟩ := f1_some h
  clear h
  obtain ⟨v, rfl, r1⟩ := rbl1 r
  unfold fSortedTD at h0
  split at h0
  · obtain ⟨bs, h2, rfl⟩ := Option.map_eq_some_iff.mp h0
    obtain ⟨a, kvs, rfl, e, e2, rl⟩ := r1.dT s
    subst e2
    obtain ⟨q1, q2⟩ := zs_keys h2
    refine ⟨a, kvs, bs, rfl, e, q1, q2, fun xs p hy hp => ?_⟩
    obtain ⟨F1, x1, h1⟩ := freeze_all s hy
    exact k p _ F1 _ (x1.trans (Ext.temp x1.s hp)) hp upd_same (none_of x1.s hp) (.lst h1)
  · cases h0
/-- sorted(d), the keys ints -/
def fSortedKI (d : D) : Option D := match d with
  | .dct false ks _ => (intsD ks).bind fun is => if decide (is.length < 64) then some (.lst ((sortI is).map D.int)) else none
  | _ => none
theorem ints_keys1 : ∀ {kvs : List (Key × V)} {is : List Int}, intsD (kvs.map fun p => kD p.1) = some is → kvs.map (·.1) = is.map Sum.inl
  | [], b, h => by cases h; rfl
  | (.inl i, v) :: k, b, h => by
    obtain ⟨us, h3, rfl⟩ := Option.map_eq_some_iff.mp (show (intsD (k.map fun p => kD p.1)).map (fun is => i :: is) = some b from h)
    rw [List.map_cons, ints_keys1 h3]; rfl
  | (.inr x, v) :: k, b, h => by cases h
theorem co_sortedKI : CO c (fun xs H Q => ∃ (a : Addr) (kvs : List (Key × V)) (ks : List Int), xs = [.ref a] ∧ Rd H a (.dK kvs) ∧ kvs.map (·.1) = ks.map Sum.inl ∧ ks.length < 64 ∧ ∀ (ys : List Int) (p : Addr), ys.Perm ks → ys.Pairwise (· ≤ ·) → H p = none → Q (.ref p) (upd H p (.lst (ys.map V.int)))) (f1 fSortedKI) := fun F H vs ds z Q s r h k => by
  obtain ⟨d, rfl, h0⟩ := f1_some h
  clear h
  obtain ⟨v, rfl, r1⟩ := rbl1 r
  unfold fSortedKI at h0
  split at h0
  · obtain ⟨is, h2, h3⟩ := Option.bind_eq_some_iff.mp h0
    split at h3
    · rename_i hl
      cases h3
      obtain ⟨a, kvs, rfl, e, e2, rl⟩ := r1.dK s
      subst e2
      refine ⟨a, kvs, is, rfl, .inl e, ints_keys1 h2, of_decide_eq_true hl, fun ns' p pm sr hp => ?_⟩
      obtain rfl := sorted_uniq (pm.trans (sortI_perm is).symm) sr (sortI_sorted is)
      exact k p _ F _ (Ext.temp s hp) hp upd_same (none_of s hp) (.lst (rpl_ints _))
    · cases h3
  · cases h0
end
end DL

/-! hand rules: dicts whose keys are tuples: comprehensions, displays -/
namespace DL
open PySem PySem.Spec L2

section
variable {X : Cx} {pins : List (Addr × Obj)} {σ : L2.St} {H : Hp} {s : Shared}
/-- what the layer knows of a dict whose keys are tuples, laid anew -/
theorem dT_new {P : Program} {w : World} {H' : Hp} {h' : Heap} {a : Addr} {kvs : List (List Key × V)} {xs : List (List Key × Addr × Value)} (hl : kvs.length ≤ sizeLine) (ha : (a == sysModules) = false) (hk : KT H' kvs xs) (hd : Heap.DictOfH (tupleKind (mixKind P w)) h' a xs) : ObjOk P w H' h' a (.dT kvs) := by
  obtain ⟨o, es, ep, h1, h2, h3, h4, _, h6⟩ := hd
  exact ⟨hl, ha, xs, hk, o, es, ep, h1, h2, h3, h4, h6⟩
theorem d_dictSetT {E : Value → Shared → Prop} {D b : Addr} {kvs : List (List Key × V)} {k : List Key} {v : V} {r : Value} {Q : Unit → Shared → Prop} (hu : X.A.units + 1 < cLine) (I : Inv X pins σ H s) (hD : H D = some (.dT kvs)) (hl : kvs.length < sizeLine) (hb : H b = some (.tup (k.map kV))) (rv : RelV v r)
    (h : ∀ s', Inv X pins σ (upd H D (.dT (putK kvs k v))) s' → Q () s') : wpAny (model X.prog X.w) X.A (dictSet D (.ref b) r) Q E s := by
  obtain ⟨h1, h2, xs, hk, hd⟩ := dt_of I.hok hD
  have hx : xs.length = kvs.length := hk.length.symm
  refine wpAny_dictSet_heap (knd := tupleKind (mixKind X.prog X.w)) ?_ (key_of I.hok hb) hd (fun h' hd' sb => ?_) (by omega)
  · show X.A.units < cLine
    omega
  · have hne : b ≠ D := fun z => by subst z; rw [hb] at hD; cases hD
    have J : Inv X pins σ (upd H D (.dT (putK kvs k v))) { heap := h', gens := s.gens, drawn := s.drawn, toks := s.toks + (tupleKind (mixKind X.prog X.w)).draws k, os := s.os } := by
      refine d_write I (by rw [hD]; trivial) sb ?_ ?_
      · obtain ⟨o, _, _, q, _⟩ := hd'
        exact ⟨o, q⟩
      · refine dT_new ?_ h2 ?_ hd'
        · have := length_putK kvs k v; omega
        · exact KT.keeps (hk.put k hb rv) fun b ys q => by
            rw [upd_ne (fun z => by subst z; rw [hD] at q; cases q)]; exact q
    exact h _ J
end
section
variable {X : Cx}
theorem inv_wipe {pins : List (Addr × Obj)} {σ : L2.St} {H : Hp} {s : Shared} (I : Inv X pins σ H s) (vs : List Nat) : Inv X pins (L2.wipe σ vs) H s :=
  { I with
    loc := by
      obtain ⟨m, h1, h2⟩ := I.loc
      exact ⟨m, h1, fun i x v e1 e2 e3 => h2 i x v e1 (wipe_some e2).1 e3⟩
    len := by rw [wipe_length]; exact I.len }
theorem wipe_wipe (σ : L2.St) (vs : List Nat) : L2.wipe (L2.wipe σ vs) vs = L2.wipe σ vs := by
  refine List.ext_getElem? fun i => ?_
  by_cases h : i ∈ vs
  · have key : ∀ τ : L2.St, (L2.wipe τ vs)[i]? = if i < τ.length then some none else none := fun τ => by
      cases q : (L2.wipe τ vs)[i]? with
      | none =>
        have := List.getElem?_eq_none_iff.mp q
        rw [wipe_length] at this
        rw [if_neg (by omega)]
      | some o =>
        have := (List.getElem?_eq_some_iff.mp q).1
        rw [wipe_length] at this
        rw [if_pos this]
        cases o with
        | none => rfl
        | some v => exact absurd h (wipe_some q).2
    rw [key, key, wipe_length]
  · rw [wipe_out h]
/-- {k: v for x in xs if t}, the keys tuples -/
def tDcT (wi : TI) (g : TG) (tt : TT) (tk tv : TE) (vs : List Nat) : TE := fun σ H Q => wi σ H fun J H1 => ∀ D, H1 D = none → ∃ W : Nat → Nat → Hp → Prop, (∃ m, W 0 m (upd H1 D (.dT []))) ∧
  ∀ i m H, W i m H → (J.stop i H ∧ Q (.ref D) H) ∨ (J.go i H ∧ ∃ Nx : Hp → Prop, (∀ H', Nx H' → ∃ m', m' < m ∧ W (i + 1) m' H') ∧
    ∀ x H', J.yld i H x H' → g x (L2.wipe σ vs) H' fun σ2 H2 => L2.wipe σ2 vs = L2.wipe σ vs ∧ tt σ2 H2 fun b H3 => if b = true then tk σ2 H3 fun y H4 => tv σ2 H4 fun z H5 =>
      ∃ (kvs : List (List Key × V)) (k : List Key) (t : Addr), y = .ref t ∧ H5 t = some (.tup (k.map kV)) ∧ H5 D = some (.dT kvs) ∧ kvs.length < sizeLine ∧ Nx (upd H5 D (.dT (putK kvs k z))) else Nx H3)
theorem pe_dcT {kx vx tg iter : Expr} {ifs : List Expr} {scope : Scope} {own : List (Str × Nat)} {pos : Pos} {wi : TI} {g : TG} {tt : TT} {tk tv : TE} (hc : X.calm = true) (hN : X.N.Nodup) (hu : X.A.units + 1 < cLine) (hi : PI X tg iter wi) (ok : BlkOk X.N X.env.scope scope own)
    (hg : ∀ (s : Shared) (H : Hp) (C : Addr) (cl : List (Str × Addr)) (fp : List Addr), PG (X.blk s H scope (compEnvC scope cl C X.env) fp) tg g)
    (ht : ∀ (s : Shared) (H : Hp) (C : Addr) (cl : List (Str × Addr)) (fp : List Addr), PTs (X.blk s H scope (compEnvC scope cl C X.env) fp) ifs tt)
    (hk : ∀ (s : Shared) (H : Hp) (C : Addr) (cl : List (Str × Addr)) (fp : List Addr), PE (X.blk s H scope (compEnvC scope cl C X.env) fp) kx tk)
    (he : ∀ (s : Shared) (H : Hp) (C : Addr) (cl : List (Str × Addr)) (fp : List Addr), PE (X.blk s H scope (compEnvC scope cl C X.env) fp) vx tv)
    (hf : ∀ x : Value, foldedSetIterable iter X.env x = pure x := by intro x; rfl) : PE X (.DictComp kx vx [⟨tg, iter, ifs, 0⟩] scope pos) (tDcT wi g tt tk tv (own.map (·.2))) := by
  refine ⟨fun pins s σ H Q I h => ?_⟩
  unfold eval
  refine wpAny_comprehension_free (g := ⟨tg, iter, ifs, 0⟩) (gs := []) (cl := cloFrom X.env.cells scope.names []) rfl hf (closure_ok fun y hy hk => I.ok.has y.1 (ok.free y hy hk)) ok.kind (fun y hy hl => by rw [ok.uniq y hy, hl]) ?_
  refine thn (hi.run pins s σ H _ I h) fun v s1 hv => thn hv fun itv s2 ⟨it, fp, tn, J, H1, e1, I2, T, t0, fo, r⟩ => ?_
  subst e1
  unfold newDict
  refine PySem.wpAny_newObj_type ?_ (by show 0 ≤ _; exact Nat.zero_le _)
  obtain ⟨W, ⟨m0, w0⟩, step⟩ := r s2.heap.objs.size (I2.hok.fresh (Nat.le_refl _))
  have I3 : Inv X pins σ (upd H1 s2.heap.objs.size (.dT [])) { heap := s2.heap.push { cls := .type "dict", dict := none, data := .dict #[] }, gens := s2.gens, drawn := s2.drawn, toks := s2.toks, os := s2.os } :=
    I2.laid (t' := s2.toks) (fun b o e => Heap.get?_push_of_some _ e) (Nat.le_refl _) (dt_empty _ I2.big)
  generalize hD : s2.heap.objs.size = D at *
  generalize hs3 : ({ heap := s2.heap.push { cls := .type "dict", dict := none, data := .dict #[] }, gens := s2.gens, drawn := s2.drawn, toks := s2.toks, os := s2.os } : Shared) = s3 at *
  have hk3 : ∀ b o, s2.heap.get? b = some o → s3.heap.get? b = some o := fun b o e => by subst hs3; exact Heap.get?_push_of_some _ e
  have lt2 : ∀ b ∈ fp, b < D := fun b hb => by
    obtain ⟨o, e, _⟩ := T.obj 0 _ t0 b hb
    rw [← hD]; exact Heap.lt_size e
  have fp3 : ∀ b ∈ fp, FpOk X pins (upd H1 D (.dT [])) b ∧ b < s3.heap.objs.size := fun b hb => by
    obtain ⟨h1, h2⟩ := fo b hb
    refine ⟨⟨by rw [upd_ne (Nat.ne_of_lt (lt2 b hb))]; exact h1, h2⟩, ?_⟩
    obtain ⟨o, e, _⟩ := T.obj 0 _ t0 b hb
    exact Heap.lt_size (hk3 b o e)
  refine newEnv_comp ?_
  have IB := block_start (own := own) I3 ok hN fp3
  generalize hcl : cellsFrom (s3.heap.objs.size + 1) scope.names (cloFrom X.env.cells scope.names []) = cl at *
  have tn3 : tn 0 (pushCells (s3.heap.push { cls := .type "dict", data := .dict #[] }) scope.names) :=
    T.keep 0 _ _ t0 fun b hb o e => pushCells_keeps _ _ _ _ (Heap.get?_push_of_some _ (hk3 b o e))
  have f3 : ∀ b ∈ fp, (upd H1 D (.dT [])) b = none := fun b hb => (fp3 b hb).1.1
  have hsz : s3.heap.objs.size ≤ s3.heap.objs.size := Nat.le_refl _
  have loop : codeAny (model X.prog X.w) X.A (Code.compLoop (.DictComp kx vx [⟨tg, iter, ifs, 0⟩] scope pos) 0 (.ref it) (.ref D) (compEnvC scope cl s3.heap.objs.size X.env))
      (compPost (model X.prog X.w) X.A X.xe none (EP X pins σ Q) (.ref D) s3.heap.objs.size)
      { heap := pushCells (s3.heap.push { cls := .type "dict", data := .dict #[] }) scope.names, gens := s3.gens, drawn := s3.drawn, toks := s3.toks, os := s3.os } := by
    refine compLoop_anyD (I := fun n s => ∃ i H' σ', Inv (X.blk s3 (upd H1 D (.dT [])) scope (compEnvC scope cl s3.heap.objs.size X.env) fp) [] σ' H' s ∧ L2.wipe σ' (own.map (·.2)) = L2.wipe σ (own.map (·.2)) ∧ W i n H' ∧ tn i s.heap ∧ ∀ b ∈ fp, H' b = none)
      (fun n s4 hI => ?_) m0 ⟨0, _, _, IB, wipe_wipe _ _, w0, tn3, f3⟩
    obtain ⟨i, H4, σ4, I4, ew, wn, t4, f4⟩ := hI
    have fpB : ∀ {s5 : Shared} {H5 : Hp} {σ5 : L2.St}, Inv (X.blk s3 (upd H1 D (.dT [])) scope (compEnvC scope cl s3.heap.objs.size X.env) fp) [] σ5 H5 s5 → (∀ b ∈ fp, H5 b = none) → ∀ b ∈ fp, FpOk (X.blk s3 (upd H1 D (.dT [])) scope (compEnvC scope cl s3.heap.objs.size X.env) fp) [] H5 b := fun {s5 H5 σ5} I5 f5 b hb =>
      ⟨f5 b hb, (I5.ok.exf b hb).1, I5.ok.exfs b hb, .inl hb, (I5.ok.exf b hb).2, fun p hp => by simp at hp⟩
    rcases step i n H4 wn with ⟨hs, q⟩ | ⟨hgo, Nx, nx, turn⟩
    · refine thn (T.done (X.blk s3 (upd H1 D (.dT [])) scope (compEnvC scope cl s3.heap.objs.size X.env) fp) rfl rfl rfl hc i [] s4 σ4 H4 _ I4 (fpB I4 f4) t4 hs) fun r5 s5 ⟨e5, I5⟩ => ?_
      subst e5
      show compPost _ _ _ _ _ _ _ _ _
      obtain ⟨m, hm, _⟩ := I5.loc
      refine ⟨m, hm, fun h' sb => ?_⟩
      have J3 : Inv X pins σ H4 s5 := by
        refine I3.call' (ch := fp) I5.os I5.base I5.hok I5.bare fun b hb => ?_
        obtain ⟨_, h2, _, h4, h5, h6⟩ := (fp3 b hb).1
        exact ⟨h4, h2, h5, h6⟩
      have lc : X.env.locals < s3.heap.objs.size := I3.lt
      refine ⟨.ref D, H4, J3.turned (it := s3.heap.objs.size) (fun b o hb e => by rw [sb.2 b hb]; exact e) I5.free (Nat.ne_of_gt lc) (.inr I3.sz) (fun x c hx => ?_) (fun p hp => ?_), rfl, q⟩
      · obtain ⟨v, ⟨o, e, _⟩⟩ := I3.cell x c hx
        exact Nat.ne_of_lt (Heap.lt_size e)
      · exact Nat.ne_of_lt (Heap.lt_size (I3.pin p hp).1)
    · refine thn (T.item (X.blk s3 (upd H1 D (.dT [])) scope (compEnvC scope cl s3.heap.objs.size X.env) fp) rfl rfl rfl hc i [] s4 σ4 H4 _ I4 (fpB I4 f4) t4 hgo) fun r5 s5 ⟨u, e5, h5⟩ => ?_
      subst e5
      refine thn h5 fun _ s6 ⟨x, H6, I6, rx, y6, t6, f6⟩ => ?_
      have P6 := ((inv_wipe I6 (own.map (·.2))).pinned (fpB I6 f6) fun b hb => T.obj _ _ t6 b hb)
      have tr := turn x H6 y6
      rw [ew] at P6
      refine thnF ((hg s3 (upd H1 D (.dT [])) s3.heap.objs.size cl fp).run _ s6 _ H6 x u _ P6 rx tr) fun _ s7 ⟨σ7, H7, I7, ew7, q7⟩ => ?_
      refine thnF ((ht s3 (upd H1 D (.dT [])) s3.heap.objs.size cl fp).run _ s7 σ7 H7 _ I7 q7) fun b s8 ⟨H8, I8, q8⟩ => ?_
      have back : ∀ {s9 : Shared} {H9 : Hp}, Inv (X.blk s3 (upd H1 D (.dT [])) scope (compEnvC scope cl s3.heap.objs.size X.env) fp) ([] ++ pinsAt fp s6.heap) σ7 H9 s9 → Nx H9 → ∃ m, m < n ∧ ∃ i H' σ', Inv (X.blk s3 (upd H1 D (.dT [])) scope (compEnvC scope cl s3.heap.objs.size X.env) fp) [] σ' H' s9 ∧ L2.wipe σ' (own.map (·.2)) = L2.wipe σ (own.map (·.2)) ∧ W i m H' ∧ tn i s9.heap ∧ ∀ b ∈ fp, H' b = none := fun {s9 H9} I9 hn => by
        obtain ⟨m', hm, w'⟩ := nx _ hn
        have get : ∀ b ∈ fp, ∀ o, s6.heap.get? b = some o → s9.heap.get? b = some o ∧ H9 b = none := fun b hb o e => by
          have := I9.pin (b, o) (show (b, o) ∈ [] ++ ([] ++ pinsAt fp s6.heap) from mem_pinsAt hb e)
          exact ⟨this.1, this.2.1⟩
        refine ⟨m', hm, i + 1, H9, σ7, I9.unpinned, ew7, w', T.keep _ _ _ t6 fun b hb o e => (get b hb o e).1, fun b hb => ?_⟩
        obtain ⟨o, e, _⟩ := T.obj _ _ t6 b hb
        exact (get b hb o e).2
      cases b with
      | false => exact back I8 q8
      | true =>
        refine thnF ((hk s3 (upd H1 D (.dT [])) s3.heap.objs.size cl fp).run _ s8 σ7 H8 _ I8 q8) fun kv s9 ⟨y, H9, I9, ry, q9⟩ => ?_
        refine thnF ((he s3 (upd H1 D (.dT [])) s3.heap.objs.size cl fp).run _ s9 σ7 H9 _ I9 q9) fun vv s10 ⟨z, H10, I10, rz, kvs, k, t, e1, e2, e3, e4, q10⟩ => ?_
        subst e1
        cases ry
        exact d_dictSetT (X := X.blk s3 (upd H1 D (.dT [])) scope (compEnvC scope cl s3.heap.objs.size X.env) fp) hu I10 e3 e4 e2 rz fun s' J => back J q10
  refine codeAny_compStart_dict ?_ ?_
  · exact loop
  · exact T.self _ 0 _ _ _ tn3 loop
end
end DL

/-! hand rules: enumerate over a tuple -/
namespace DL
open PySem PySem.Spec L2

theorem newB1 {v : Value} {o : Obj} {H : Heap → Prop} (hb : Begins v o H) : Meets (Builtin.«enumerate.__new__» { pos := [Value.type "enumerate", v] }) fun x R s =>
        H s.heap ∧
          R (Except.ok (Flow.ret (Value.ref (s.heap.push o).objs.size)))
            { heap := (s.heap.push o).push { cls := Value.type "enumerate", data := Data.fields #[Value.none, Value.bool false, Value.ref s.heap.objs.size, rawInt 0, Value.none, Value.none] },
              gens := s.gens, drawn := s.drawn, toks := s.toks, os := s.os } := by
  intro prog w A R s ⟨hH, hR⟩
  have key : wpAny (model prog w) A.in1 (do let it ← pyIter v; let r ← Builtin.SmallTypes.newRecord (.type "enumerate") (Builtin.SmallTypes.ownedTupleFields ++ [it, rawInt 0, .none, .none]); ret r) (fun fin s' => match fin with
          | Fin.done f => R (Except.ok f) s'
          | Fin.again c' => c'.quiet = true ∧ codeAny (model prog w) A c' R s')
        (fun e s' => R (Except.error e) s') s := by
    refine wpAny_bind (hb.iter _ _ _ _ _ _ hH ?_)
    refine wpAny_bind ?_
    show wpAny _ _ (newObj (.type "enumerate") (Data.fields (Builtin.SmallTypes.ownedTupleFields ++ [Value.ref s.heap.objs.size, rawInt 0, Value.none, Value.none]).toArray)) _ _ _
    refine PySem.wpAny_newObj_type ?_ (by show 6 ≤ _; decide)
    exact wpAny_pure hR
  unfold Builtin.«enumerate.__new__»
  refine wpAny_bind (wpAny_pure ?_)
  refine wpAny_bind (thn (Q := fun _ s' => s' = s) ?_ fun b s' e => ?_)
  · unfold Builtin.SmallTypes.calledThroughType
    exact wpAny_bind (PySem.wpAny_stack_any fun st => wpAny_pure rfl)
  · subst e
    cases b with
    | true => exact wpAny_bind (wpAny_pure (a := (v, none)) key)
    | false => exact wpAny_bind (wpAny_pure (a := (v, none)) key)
section
variable {P : Program} {w : World} {K : PySem.W.Frag}
theorem call_enum1 {A : Around} {E : Value → Shared → Prop} {s : Shared} {t : Addr} {items : Array Value} {Q : Value → Shared → Prop} (ht : s.heap.IsTuple t items)
    (h : ∀ h' : Heap, IsEnum h' (s.heap.objs.size + 1) s.heap.objs.size 0 .none → h'.IsTupleIter s.heap.objs.size t 0 → (∀ b o, s.heap.get? b = some o → h'.get? b = some o) → Q (.ref (s.heap.objs.size + 1)) { heap := h', gens := s.gens, drawn := s.drawn, toks := s.toks, os := s.os }) :
    wpAny (model P w) A (call (.type "enumerate") [.ref t]) Q E s := by
  refine callType_new PySem.F.called_enumerate (by decide) (PySem.F.typeCall_enumerate_1 _) (PySem.F.newCall_enumerate_1 _) (fun obj => ?_) PySem.F.entry_enumerate_new (newB1 (begins_tuple t items)) ⟨ht, ?_⟩
  · exact PySem.F.args_object_init_2 _ _
  · have e0 : ((s.heap.push { cls := .type "tuple_iterator", data := .fields #[.ref t, .int 0 0] }).push { cls := .type "enumerate", data := .fields #[.none, .bool false, .ref s.heap.objs.size, rawInt 0, .none, .none] }).get? (s.heap.objs.size + 1) = some { cls := .type "enumerate", data := .fields #[.none, .bool false, .ref s.heap.objs.size, rawInt 0, .none, .none] } := by
      rw [← Heap.size_push s.heap { cls := .type "tuple_iterator", data := .fields #[.ref t, .int 0 0] }]
      exact Heap.get?_push_size _ rfl
    have sz : (s.heap.push { cls := .type "tuple_iterator", data := .fields #[.ref t, .int 0 0] }).objs.size = s.heap.objs.size + 1 := Heap.size_push _ _
    show _ ∧ _
    rw [sz]
    refine ⟨⟨_, e0, rfl⟩, h _ e0 ⟨_, Heap.get?_push_of_some _ (Heap.get?_push_size _ rfl), rfl, rfl⟩ fun b o e => Heap.get?_push_of_some _ (Heap.get?_push_of_some _ e)⟩
/-- what enumerate walks, a tuple -/
def Iet (K : PySem.W.Frag) (a : Addr) : It where
  go := fun i H => ∃ xs x, SqT K H a xs ∧ xs[i]? = some x
  yld := fun i H v H' => ∃ T x, v = .ref T ∧ H T = none ∧ H' = upd H T (.tup [.int (i : Nat), x]) ∧ ∀ xs : List V, SqT K H a xs → xs[i]? = some x
  stop := fun i H => ∃ xs : List V, SqT K H a xs ∧ xs.length = i
theorem vals_get : ∀ {xs : List V} {us : List Value} {i : Nat} {u : Value}, Vals xs us → us[i]? = some u → ∃ x, xs[i]? = some x ∧ RelV x u
  | _, _, _, _, .nil, e => by simp at e
  | _, _, 0, _, .cons r _, e => by simp at e; subst e; exact ⟨_, rfl, r⟩
  | _, _, i + 1, u, .cons _ t, e => by
    obtain ⟨v, h1, h2⟩ := vals_get (i := i) (u := u) t (by simpa using e)
    exact ⟨v, by simpa using h1, h2⟩
theorem sqt_uniq {X : Cx} {pins : List (Addr × Obj)} {σ : L2.St} {H : Hp} {s : Shared} (I : Inv X pins σ H s) {a : Addr} {xs ys : List V} (h1 : SqT X.K H a xs) (h2 : SqT X.K H a ys) : xs = ys := by
  obtain ⟨i1, r1, ⟨o1, e1, _, _, d1⟩, _⟩ := I.tuple h1
  obtain ⟨i2, r2, ⟨o2, e2, _, _, d2⟩, _⟩ := I.tuple h2
  rw [e1] at e2; cases e2
  rw [d1] at d2
  have : i1.toArray = i2.toArray := by injection d2
  have : i1 = i2 := by simpa using this
  subst this
  exact r1.inj r2
theorem turn_enumT {elts : List Expr} {kk : Nat} {tpos : Pos} (a e it : Addr) : Turn P w K (.Tuple elts kk tpos) (Iet K a) [e, it] e fun i h => (∃ old, IsEnum h e it (i : Nat) old) ∧ h.IsTupleIter it a i ∧ e ≠ it where
  mem := by simp
  obj := fun i h ⟨⟨old, h1⟩, ⟨o, h2, h3, h4⟩, h5⟩ b hb => by
    rcases List.mem_cons.mp hb with rfl | hb
    · exact ⟨_, h1, fun v z => by cases z⟩
    · rcases List.mem_cons.mp hb with rfl | hb
      · exact ⟨o, h2, fun v z => by rw [h4] at z; cases z⟩
      · cases hb
  keep := fun i h h' ⟨⟨old, h1⟩, ⟨o, h2, h3, h4⟩, h5⟩ k => ⟨⟨old, k e (by simp) _ h1⟩, ⟨o, k it (by simp) _ h2, h3, h4⟩, h5⟩
  item := fun X hP hw hK hc i pins s σ H E I fo tn hg => by
    subst hP hw hK
    obtain ⟨⟨old, h1⟩, h2, h5⟩ := tn
    obtain ⟨xs, x, hq, hx⟩ := hg
    obtain ⟨its, rv, pt, hz⟩ := I.tuple hq
    have hi : i < its.toArray.size := by
      have := (List.getElem?_eq_some_iff.mp hx).1
      rw [List.size_toArray, ← rv.length]; exact this
    have hne : a ≠ it := by
      rintro rfl
      obtain ⟨o1, e1, c1, _⟩ := h2
      obtain ⟨o2, e2, c2, _⟩ := pt
      rw [e1] at e2; cases e2
      rw [c1] at c2; exact absurd (Value.type.inj c2) (by decide)
    have hea : e ≠ a := by
      rintro rfl
      obtain ⟨o2, e2, c2, _⟩ := pt
      rw [h1] at e2; cases e2
      exact absurd (Value.type.inj c2) (by decide)
    refine wpAny_pyNext_enum_itemD (Draws.tuple (A := X.A.in1) (show X.A.in1.handled = none from I.ok.hd hc) it a hne its.toArray) h1 ⟨h2, pt⟩ hi h5 (by simp [h5, hea]) fun y h' tk hy ho st ht hs hk => ?_
    refine ⟨_, rfl, ?_⟩
    refine wpAny_letOwnedTupleGo_enum ho fun h'' he hb => ?_
    have lt : s.heap.objs.size < h'.objs.size := by omega
    have ne : s.heap.objs.size ≠ e := Nat.ne_of_gt (Heap.lt_size h1)
    have ni : s.heap.objs.size ≠ it := by
      obtain ⟨o, e2, _⟩ := h2
      exact Nat.ne_of_gt (Heap.lt_size e2)
    obtain ⟨x', hx', rx⟩ := vals_get (u := y) rv (by rw [← List.getElem?_toArray]; exact hy)
    have ht2 : h''.get? s.heap.objs.size = some { cls := .type "tuple", data := .seq #[.int (i : Nat) tk, y] } := by rw [hb.2 _ ne]; exact ht
    have J : Inv X pins σ (upd H s.heap.objs.size (.tup [.int (i : Nat), x'])) { heap := h'', gens := s.gens, drawn := s.drawn, toks := tk + 1, os := s.os } := by
      refine I.turnedNew (ch := [e, it]) (fun b o hn q => ?_) (fun b q => fo b q) (Nat.le_refl _) ?_
      · have hbe : b ≠ e := fun z => hn (by simp [z])
        have hbi : b ≠ it := fun z => hn (by simp [z])
        rw [hb.2 b hbe]; exact hk b o hbe hbi q
      · exact ⟨by show 2 ≤ sizeLine; decide, [.int (i : Nat) tk, y], .cons ⟨tk, rfl⟩ (.cons rx .nil), ⟨_, ht2, rfl, _, rfl⟩⟩
    have fr : H s.heap.objs.size = none := I.hok.fresh (Nat.le_refl _)
    refine ⟨.ref s.heap.objs.size, _, J, rfl, ⟨_, x', rfl, fr, rfl, fun ys hy' => ?_⟩, ⟨⟨_, he⟩, ?_, h5⟩, fun b q => ?_⟩
    · obtain rfl := sqt_uniq I hq hy'
      exact hx'
    · obtain ⟨o, e2, e3, e4⟩ := st.1
      exact ⟨o, by rw [hb.2 it (Ne.symm h5)]; exact e2, e3, e4⟩
    · rcases List.mem_cons.mp q with rfl | q
      · rw [upd_ne (Ne.symm ne)]; exact (fo _ (by simp)).1
      · rcases List.mem_cons.mp q with rfl | q
        · rw [upd_ne (Ne.symm ni)]; exact (fo _ (by simp)).1
        · cases q
  done := fun X hP hw hK hc i pins s σ H E I fo tn hs => by
    subst hP hw hK
    obtain ⟨⟨old, h1⟩, h2, h5⟩ := tn
    obtain ⟨xs, hq, hl⟩ := hs
    obtain ⟨its, rv, pt, hz⟩ := I.tuple hq
    have hne : a ≠ it := by
      rintro rfl
      obtain ⟨o1, e1, c1, _⟩ := h2
      obtain ⟨o2, e2, c2, _⟩ := pt
      rw [e1] at e2; cases e2
      rw [c1] at c2; exact absurd (Value.type.inj c2) (by decide)
    have hn : its.toArray.size = i := by rw [List.size_toArray, ← rv.length]; exact hl
    refine wpAny_pyNext_enum_endD (Draws.tuple (A := X.A.in1) (show X.A.in1.handled = none from I.ok.hd hc) it a hne its.toArray) h1 ⟨by rw [hn]; exact h2, pt⟩ fun h' xb => ⟨rfl, ?_⟩
    exact I.turnedL (t' := s.toks) (ch := [e, it]) (fun b o hnb q => xb b o (fun z => hnb (by simp [z])) q) fun b q => fo b q
  self := fun A i s Q E ⟨⟨old, h1⟩, _⟩ q => wpAny_pyIter_enum h1 q
def iEnumT (K : PySem.W.Frag) (ta : TA) : TI := fun σ H R => ta σ H fun vs H1 => ∃ a xs, vs = [.ref a] ∧ SqT K H1 a xs ∧ R (Iet K a) H1
theorem pi_enumT {X : Cx} {e : Expr} {ta : TA} {p pos tpos : Pos} {elts : List Expr} {kk : Nat} (hg : Gl X "enumerate") (hm : X.mg "enumerate" = none) (ha : PA X [e] ta) (hs : starEach [e] X.env = [(false, eval e X.env)] := by rfl) :
    PI X (.Tuple elts kk tpos) (.Call (.Name "enumerate" p) [e] [] pos) (iEnumT X.K ta) := by
  refine ⟨fun pins s σ H R I h => ?_⟩
  have hn : PE X (.Name "enumerate" p) (tC (.ty "enumerate")) := pe_bltn hg hm (by decide +kernel) rfl
  refine wpAny_Call_NameR (thn (hn.run pins s σ H (fun v H' => v = .ty "enumerate" ∧ H' = H) I ⟨rfl, rfl⟩) fun f s1 ⟨v, H0, I0, rv, e1, e2⟩ => ?_)
  subst e1 e2
  cases rv
  refine PyProof.Rows.callWith_type1 (thn (ha.run pos pins s1 σ H0 _ I0 h) fun us s2 ⟨vs, H1, I1, r1, a, xs, e3, hq, r⟩ => ?_) hs (by rfl)
  subst e3
  obtain ⟨u, rfl, ru⟩ := vals1 r1
  cases ru
  obtain ⟨its, rv, pt, hz⟩ := I1.tuple hq
  refine call_enum1 pt fun h' h1 h2 hk => ?_
  have I2 : Inv X pins σ H1 { heap := h', gens := s2.gens, drawn := s2.drawn, toks := s2.toks, os := s2.os } := I1.kept (t' := s2.toks) hk
  refine wpAny_pyIter_enum h1 ?_
  refine ⟨s2.heap.objs.size + 1, [s2.heap.objs.size + 1, s2.heap.objs.size], _, _, H1, rfl, I2, turn_enumT a (s2.heap.objs.size + 1) s2.heap.objs.size, ⟨⟨_, h1⟩, h2, Nat.ne_of_gt (Nat.lt_succ_self _)⟩, fun b hb => ?_, r⟩
  have ge : s2.heap.objs.size ≤ b := by
    rcases List.mem_cons.mp hb with rfl | hb
    · exact Nat.le_succ _
    · rcases List.mem_cons.mp hb with rfl | hb
      · exact Nat.le_refl _
      · cases hb
  refine ⟨I1.hok.fresh ge, ?_, I1.nofs ge, .inr (Nat.le_trans I1.sz ge), fun x c hx => ?_, fun p hp => ?_⟩
  · exact Nat.ne_of_gt (Nat.lt_of_lt_of_le I1.lt ge)
  · obtain ⟨v, ⟨o, e, _⟩⟩ := I1.cell x c hx
    exact Nat.ne_of_lt (Nat.lt_of_lt_of_le (Heap.lt_size e) ge)
  · exact Nat.ne_of_lt (Nat.lt_of_lt_of_le (Heap.lt_size (I1.pin p hp).1) ge)
end
end DL

/-! hand rules: a display whose key is a tuple; dict(pairs) -/
namespace DL
open PySem PySem.Spec L2

section
variable {X : Cx}
/-- {k: v}, the key a tuple -/
def tDispT (tk tv : TE) : TE := fun σ H Q => ∀ p, H p = none → tk σ (upd H p (.dT [])) fun x H1 => tv σ H1 fun y H2 => H2 p = some (.dT []) ∧ ∃ (ks : List Key) (t : Addr), x = .ref t ∧ H2 t = some (.tup (ks.map kV)) ∧ Q (.ref p) (upd H2 p (.dT [(ks, y)]))
theorem pe_dispT {pos : Pos} {k v : Expr} {tk tv : TE} (hu : X.A.units + 1 < cLine) (hk : PE X k tk) (hv : PE X v tv) : PE X (.Dict [some k] [v] pos) (tDispT tk tv) := by
  refine ⟨fun pins s σ H Q I h => ?_⟩
  unfold eval
  refine wpAny_bind (wpAny_standAt ?_)
  have e0 : (evalEachOpt [some k] X.env).zip (List.map (fun v => do let x ← v; standAt pos; pure x) (evalEach [v] X.env)) = (pairTrees [some k] [v] X.env pos).map (fun p => (some p.1, p.2)) := by rfl
  rw [e0]
  rw [dictDisplay_pairs _ (by intro z; cases z) (by show 1 < 17; decide)]
  refine wpAny_bind (wpAny_subDictH (knd := tupleKind (mixKind X.prog X.w)) (show X.A.units < cLine by omega) (by show 1 ≤ 15; decide) ?_)
  have I1 : Inv X pins σ (upd H s.heap.objs.size (.dT [])) { heap := s.heap.push { cls := .type "dict", data := .dict #[] }, gens := s.gens, drawn := s.drawn, toks := s.toks, os := s.os } :=
    I.laid (t' := s.toks) (fun b o e => Heap.get?_push_of_some _ e) (Nat.le_refl _) (dt_empty _ I.big)
  have hq := h s.heap.objs.size (I.hok.fresh (Nat.le_refl _))
  refine thn ((pps_cons hk hv pps_nil).run pins _ σ _ (fun ps H2 => match ps with | [(x, y)] => H2 s.heap.objs.size = some (.dT []) ∧ ∃ (ks : List Key) (t : Addr), x = .ref t ∧ H2 t = some (.tup (ks.map kV)) ∧ Q (.ref s.heap.objs.size) (upd H2 s.heap.objs.size (.dT [(ks, y)])) | _ => False) I1 hq) fun vs s' ⟨ps, H', I', vv, qq⟩ => ?_
  · split at qq
    case h_2 => exact qq.elim
    rename_i x y
    obtain ⟨e2, ks, t, e3, e4, q⟩ := qq
    subst e3
    cases vv with
    | @cons _ q1 _ _ hh r =>
      cases r
      obtain ⟨ku, vu⟩ := q1
      obtain ⟨r1, r2⟩ := hh
      cases r1
      obtain ⟨_, hs, xs0, hk0, hd0⟩ := dt_of I'.hok e2
      cases hk0
      refine ⟨[(ks, t, vu)], ⟨rfl, rfl, key_of I'.hok e4, trivial⟩, hd0, fun h' tk hd sb => wpAny_pure ?_⟩
      have ne : t ≠ s.heap.objs.size := fun z => by subst z; rw [e4] at e2; cases e2
      refine ⟨.ref s.heap.objs.size, _, d_write I' (by rw [e2]; trivial) sb ?_ ?_, rfl, q⟩
      · obtain ⟨o, _, _, g, _⟩ := hd; exact ⟨o, g⟩
      · refine dT_new (by show 1 ≤ sizeLine; decide) hs ?_ hd
        exact .cons ⟨rfl, by rw [upd_ne ne]; exact e4, r2⟩ .nil
end
end DL
namespace DL
open PySem PySem.Spec L2
section
variable {X : Cx}
def mergeT (kvs : List (List Key × V)) (more : List (List Key × Addr × V)) : List (List Key × V) := more.foldl (fun acc kv => putK acc kv.1 kv.2.2) kvs
theorem mergeT_len : ∀ (more : List (List Key × Addr × V)) (kvs : List (List Key × V)), (mergeT kvs more).length ≤ kvs.length + more.length
  | [], kvs => Nat.le_refl _
  | m :: more, kvs => by
    have := mergeT_len more (putK kvs m.1 m.2.2)
    have h2 := length_putK kvs m.1 m.2.2
    show (mergeT (putK kvs m.1 m.2.2) more).length ≤ _
    rw [List.length_cons]; omega
theorem merge_KT {H : Hp} : ∀ {more : List (List Key × Addr × V)} {prs : List (List Key × Addr × Value)} {kvs : List (List Key × V)} {xs : List (List Key × Addr × Value)}, KT H kvs xs → Paired (fun (kv : List Key × Addr × V) (q : List Key × Addr × Value) => kv.1 = q.1 ∧ kv.2.1 = q.2.1 ∧ RelV kv.2.2 q.2.2 ∧ H kv.2.1 = some (.tup (kv.1.map kV))) more prs → KT H (mergeT kvs more) (storedAllH xs prs)
  | _, _, _, _, k, .nil => k
  | _, _, kvs, xs, k, @Paired.cons _ _ _ m q more prs ⟨e1, e2, e3, e4⟩ r => by
    show KT H (mergeT (putK kvs m.1 m.2.2) more) (storedAllH (storedH xs q.1 q.2.1 q.2.2) prs)
    rw [← e1, ← e2]
    exact merge_KT (k.put m.1 e4 e3) r
theorem pairsT_of {pins : List (Addr × Obj)} {σ : L2.St} {H : Hp} {s : Shared} (I : Inv X pins σ H s) : ∀ {ps : List Addr} {kvs : List (List Key × Addr × V)}, Paired (fun p (kv : List Key × Addr × V) => SqT X.K H p [.ref kv.2.1, kv.2.2] ∧ H kv.2.1 = some (.tup (kv.1.map kV))) ps kvs →
    ∃ prs : List (List Key × Addr × Value), Paired (fun (kv : List Key × Addr × V) (q : List Key × Addr × Value) => kv.1 = q.1 ∧ kv.2.1 = q.2.1 ∧ RelV kv.2.2 q.2.2 ∧ H kv.2.1 = some (.tup (kv.1.map kV))) kvs prs ∧ Paired (fun p (q : List Key × Addr × Value) => PyProof.Rows.IsTup s.heap p #[.ref q.2.1, q.2.2]) ps prs
  | _, _, .nil => ⟨[], .nil, .nil⟩
  | _, _, .cons ⟨h1, h2⟩ r => by
    obtain ⟨prs, p1, p2⟩ := pairsT_of I r
    obtain ⟨its, rv, pt, _⟩ := I.tuple h1
    cases rv with
    | cons r1 r2 =>
      cases r1
      cases r2 with
      | cons r3 r4 =>
        cases r4
        exact ⟨(_, _, _) :: prs, .cons ⟨rfl, rfl, r3, h2⟩ p1, .cons pt p2⟩
end
end DL

/-! hand rules: dict(pairs), the keys tuples; len(set(t)) -/
namespace DL
open PySem PySem.Spec L2
section
variable {X : Cx}
theorem paired_at {α β : Type} {R : α → β → Prop} : ∀ {as : List α} {bs : List β} {i : Nat} {b : β}, Paired R as bs → bs[i]? = some b → ∃ a, as[i]? = some a ∧ R a b
  | _, _, _, _, .nil, e => by simp at e
  | _, _, 0, _, .cons r _, e => by simp at e; subst e; exact ⟨_, rfl, r⟩
  | _, _, i + 1, b, .cons _ t, e => by
    obtain ⟨v, h1, h2⟩ := paired_at (i := i) (b := b) t (by simpa using e)
    exact ⟨v, by simpa using h1, h2⟩
/-- dict(xs), xs a list of pairs whose first is a tuple -/
def rDictT (K : PySem.W.Frag) : List V → Hp → VK → Prop := fun xs H Q => ∃ (a : Addr) (ps : List Addr) (kvs : List (List Key × Addr × V)), xs = [.ref a] ∧ SqL K H a (ps.map V.ref) ∧ Paired (fun p (kv : List Key × Addr × V) => SqT K H p [.ref kv.2.1, kv.2.2] ∧ H kv.2.1 = some (.tup (kv.1.map kV))) ps kvs ∧
  ∀ p, H p = none → Q (.ref p) (upd H p (.dT (mergeT [] kvs)))
theorem call_dictT (hc : X.calm = true) (hu : X.A.units + 64 < cLine) : CallR X (.type "dict") (rDictT X.K) := by
  intro pins s σ H xs us Q I r h
  obtain ⟨a, ps, kvs, rfl, hs, hp, q⟩ := h
  obtain ⟨u, rfl, ru⟩ := vals1 r
  cases ru
  obtain ⟨its, rv, pl, hz⟩ := I.list hs
  obtain rfl := refs_at rv
  obtain ⟨prs, p1, p2⟩ := pairsT_of I hp
  have l1 : ps.length = kvs.length := hp.length
  have l2 : kvs.length = prs.length := p1.length
  rw [List.length_map] at hz
  have ok : PlainSeq "list" s.heap a (ps.map Value.ref).toArray ∧ PairItems s.heap (ps.map Value.ref).toArray (fun j => ps.getD j 0) (prs.map fun x => (Value.ref x.2.1, x.2.2)) := by
    refine ⟨?_, ?_, fun j k v hj => ?_⟩
    · obtain ⟨o, n, e1, e2, e3, e4⟩ := pl
      exact ⟨o, n, e1, e2, e3, e4⟩
    · simp only [List.size_toArray, List.length_map]; omega
    · rw [List.getElem?_map] at hj
      obtain ⟨x, hx, e⟩ := Option.map_eq_some_iff.mp hj
      cases e
      obtain ⟨p, hp1, hp2⟩ := paired_at p2 hx
      refine ⟨?_, .inl ?_⟩
      · rw [List.getElem?_toArray, List.getElem?_map, hp1]
        simp only [Option.map_some, List.getD, hp1, Option.getD_some]
      · simp only [List.getD, hp1, Option.getD_some]
        exact hp2
  refine call_dict_pairsH (knd := tupleKind (mixKind X.prog X.w)) (ps := prs) (PairArg.list a _ _ _) (I.ok.hd hc) (show X.A.in1.in1.units < cLine from ?_) ok ⟨by rw [List.length_map], fun i key v hj => ?_⟩ (fun h' hk x hx => ?_) (by rw [List.length_map]; omega) fun h' tk hd hk => ?_
  · show X.A.units + 1 + 1 < cLine
    omega
  · have hj : (prs.map fun x => (Value.ref x.2.1, x.2.2))[i]? = some (key, v) := hj
    rw [List.getElem?_map] at hj
    obtain ⟨x, hx, e⟩ := Option.map_eq_some_iff.mp hj
    cases e
    exact ⟨x.1, x.2.1, hx, rfl⟩
  · obtain ⟨i, hi⟩ := List.mem_iff_getElem?.mp hx
    obtain ⟨kv, _, e1, e2, _, e4⟩ := paired_at p1 hi
    have hok : HOk X.prog X.w H h' := I.hok.kept fun b u e => hk b u (Nat.ne_of_lt (Heap.lt_size e)) (by simp) e
    rw [← e1, ← e2]
    exact key_of hok e4
  · have J : Inv X pins σ (upd H s.heap.objs.size (.dT (mergeT [] kvs))) { heap := h', gens := s.gens, drawn := s.drawn, toks := tk, os := s.os } := by
      refine I.laid (t' := tk) (fun b o e => hk b o (by simp) e) (Nat.le_refl _) (dT_new ?_ ?_ ?_ hd)
      · have := mergeT_len kvs []
        simp only [List.length_nil] at this
        omega
      · have := I.big
        exact beq_false_of_ne (Nat.ne_of_gt this)
      · refine KT.keeps (merge_KT .nil p1) fun b ys e => ?_
        rw [upd_ne (Nat.ne_of_lt (I.hok.lt e))]; exact e
    exact ⟨.ref _, _, J, rfl, q _ (I.hok.fresh (Nat.le_refl _))⟩
end
end DL

/-! hand rules: len(set(t)), t a tuple of ints -/
namespace DL
open PySem PySem.Spec L2
section
variable {X : Cx}
/-- how many different ints -/
def diffI : List Int → List Int
  | [] => []
  | i :: is => if (diffI is).contains i then diffI is else i :: diffI is
theorem mem_diffI (j : Int) : ∀ is, j ∈ diffI is ↔ j ∈ is
  | [] => Iff.rfl
  | i :: is => by
    have ih := mem_diffI j is
    unfold diffI
    split
    · rename_i h
      have hi : i ∈ diffI is := by simpa using h
      rw [ih, List.mem_cons]
      constructor
      · exact .inr
      · rintro (rfl | h)
        · exact ((mem_diffI j is).mp hi)
        · exact h
    · rw [List.mem_cons, List.mem_cons, ih]
theorem nodup_diffI : ∀ is, (diffI is).Nodup
  | [] => List.nodup_nil
  | i :: is => by
    unfold diffI
    split
    · exact nodup_diffI is
    · rename_i h
      exact List.nodup_cons.mpr ⟨by simpa using h, nodup_diffI is⟩
theorem nodup_len {a b : List Int} (h1 : a.Nodup) (h2 : b.Nodup) (h : ∀ k, k ∈ a ↔ k ∈ b) : a.length = b.length :=
  ((List.perm_ext_iff_of_nodup h1 h2).mpr h).length_eq
def rSetT (K : PySem.W.Frag) : List V → Hp → VK → Prop := fun xs H Q => ∃ (l : Addr) (ns : List Int), xs = [.ref l] ∧ SqT K H l (ns.map V.int) ∧ ns.length + 1 < scanBound ∧ ∀ p, H p = none → Q (.ref p) (upd H p (.set (fun j => decide (j ∈ ns)) (diffI ns).length))
theorem call_setT (hc : X.calm = true) : CallR X (.type "set") (rSetT X.K) := by
  intro pins s σ H xs us Q I r h
  obtain ⟨l, ns, rfl, hq, hl, q⟩ := h
  obtain ⟨u, rfl, ru⟩ := vals1 r
  cases ru
  obtain ⟨its, rv, pt, hz⟩ := I.tuple hq
  refine call_set_tupI ns (I.ok.hd hc) pt (vals_ints rv) hl fun h' tk n hs _ hk => ?_
  have hn : n = (diffI ns).length := by
    obtain ⟨o, es, ep, t, _, _, _, _, nd, mem, _, _, sz, _⟩ := hs
    rw [← sz, ← Array.length_toList, ← List.length_map (f := keyOf)]
    refine nodup_len nd (nodup_diffI ns) fun k => ?_
    rw [← mem k, mem_diffI]; simp
  subst hn
  have J : Inv X pins σ (upd H s.heap.objs.size (.set (fun j => decide (j ∈ ns)) (diffI ns).length)) { heap := h', gens := s.gens, drawn := s.drawn, toks := tk, os := s.os } :=
    I.laid (t' := tk) hk (Nat.le_refl _) hs.setOf
  exact ⟨.ref _, _, J, rfl, q _ (I.hok.fresh (Nat.le_refl _))⟩
def rLenS : List V → Hp → VK → Prop := fun xs H Q => ∃ p S n, xs = [.ref p] ∧ H p = some (.set S n) ∧ Q (.int (n : Nat)) H
theorem call_lenS : CallR X (.builtin "len") rLenS := by
  intro pins s σ H xs us Q I r h
  obtain ⟨p, S, n, rfl, hp, q⟩ := h
  obtain ⟨u, rfl, ru⟩ := vals1 r
  cases ru
  obtain ⟨o, es, ep, t, h1, h2, h3, _, _, h6, h7, h8⟩ := (show Heap.SetOf (intKind X.prog X.w) s.heap p S n from I.hok p _ hp)
  refine call_len_set h1 h2 h3 h7 ?_ ?_
  · have : scanBound < 2 ^ 63 := by decide
    omega
  · rw [h8]
    exact ⟨.int _, H, I.kept (t' := s.toks + 1 + 1) (fun _ _ e => e), ⟨_, rfl⟩, q⟩
end
end DL

namespace DL
open PySem PySem.Spec L2

section
variable {c : Cc} {ta tb tc : TE} {ma mb mc : M D}
/-! enumerate -/
def enumD (i : Nat) : List D → List D
  | [] => []
  | d :: ds => .tup [.int i, d] :: enumD (i + 1) ds
theorem enumD_len : ∀ (ds : List D) (i : Nat), (enumD i ds).length = ds.length
  | [], _ => rfl
  | d :: ds, i => by show (enumD (i + 1) ds).length + 1 = _; rw [enumD_len ds]; rfl
theorem enumD_get : ∀ (ds : List D) (i j : Nat) (d : D), (enumD i ds)[j]? = some d → ∃ e, ds[j]? = some e ∧ d = .tup [.int (i + j : Nat), e]
  | [], _, _, _, h => by simp [enumD] at h
  | e :: ds, i, 0, d, h => by simp [enumD] at h; exact ⟨e, rfl, h.symm⟩
  | e :: ds, i, j + 1, d, h => by
    obtain ⟨e', h1, h2⟩ := enumD_get ds (i + 1) j d (by simpa [enumD] using h)
    exact ⟨e', by simpa using h1, by rw [h2]; congr 3; omega⟩
theorem enum_yld {K : PySem.W.Frag} {F H : Hp} {T : Addr} {i : Nat} {x : V} {d : D} (s : Same F H) (hT : H T = none) (r : Rp K F x d) : ∃ F', Ext F H F' (upd H T (.tup [.int (i : Nat), x])) ∧ Rp K F' (.ref T) (.tup [.int (i : Nat), d]) :=
  ⟨upd F T _, Ext.laid s hT, .obj upd_same (.tup (.cons (.int _) (.cons (r.mono (Ext.laid s hT).f) .nil)))⟩
theorem its_enumT {K : PySem.W.Frag} {F : Hp} {a : Addr} {xs : List V} {ds : List D} (h : SqT K F a xs) (r : RpL K F xs ds) : Its K (Iet K a) F (enumD 0 ds) where
  go := fun i F' H s1 s2 hi => by
    rw [enumD_len] at hi
    have hx : i < xs.length := by rw [r.length]; exact hi
    exact ⟨xs, xs[i], same_seqT s2 (same_seqT s1 h), by simp [hx]⟩
  stop := fun F' H s1 s2 => ⟨xs, same_seqT s2 (same_seqT s1 h), by rw [enumD_len, r.length]⟩
  yld := fun i F' H x H' d s1 s2 hd hy => by
    obtain ⟨T, y, rfl, hT, rfl, hy⟩ := hy
    obtain ⟨e, h1, rfl⟩ := enumD_get ds 0 i d hd
    obtain ⟨v, h2, h3⟩ := r.get h1
    have := hy xs (same_seqT s2 (same_seqT s1 h))
    rw [h2] at this; cases this
    rw [Nat.zero_add]
    exact enum_yld s2 hT (h3.mono s1)
theorem its_enumL {K : PySem.W.Frag} {F : Hp} {a : Addr} {xs : List V} {ds : List D} (h : F a = some (.lst xs)) (r : RpL K F xs ds) : Its K (Ite K a) F (enumD 0 ds) where
  go := fun i F' H s1 s2 hi => by
    rw [enumD_len] at hi
    have hx : i < xs.length := by rw [r.length]; exact hi
    exact ⟨xs, xs[i], SqL.of (s2 _ _ (s1 _ _ h)), by simp [hx]⟩
  stop := fun F' H s1 s2 => ⟨xs, SqL.of (s2 _ _ (s1 _ _ h)), by rw [enumD_len, r.length]; exact Nat.le_refl _⟩
  yld := fun i F' H x H' d s1 s2 hd hy => by
    obtain ⟨T, y, rfl, hT, rfl, hy⟩ := hy
    obtain ⟨e, h1, rfl⟩ := enumD_get ds 0 i d hd
    obtain ⟨v, h2, h3⟩ := r.get h1
    have := hy xs (SqL.of (s2 _ _ (s1 _ _ h)))
    rw [h2] at this; cases this
    rw [Nat.zero_add]
    exact enum_yld s2 hT (h3.mono s1)
def mItE (m : M D) : M (List D) := fun δ => (m δ).bind fun d => (lstD d).map (enumD 0)
def mItET (m : M D) : M (List D) := fun δ => (m δ).bind fun d => (tupD d).map (enumD 0)
theorem wx_enumT (h : Ex c ta ma) : Wx c (iEnumT c.K (tCons ta tNil)) (mItET ma) := fun δ σ F H R ds S e k => by
  obtain ⟨d, e1, e2⟩ := Option.bind_eq_some_iff.mp (show (ma δ).bind (fun d => (tupD d).map (enumD 0)) = some ds from e)
  obtain ⟨es, e3, rfl⟩ := Option.map_eq_some_iff.mp e2
  refine h δ σ F H _ _ S e1 fun v F' H' x r => ?_
  obtain ⟨a, xs, rfl, h1, rl⟩ := tupD_ok r e3
  exact ⟨a, xs, rfl, same_seqT x.s h1, k _ F' H' x (its_enumT h1 rl)⟩
theorem wx_enum (h : Ex c ta ma) : Wx c (iEnum c.K (tCons ta tNil)) (mItE ma) := fun δ σ F H R ds S e k => by
  obtain ⟨d, e1, e2⟩ := Option.bind_eq_some_iff.mp (show (ma δ).bind (fun d => (lstD d).map (enumD 0)) = some ds from e)
  obtain ⟨es, e3, rfl⟩ := Option.map_eq_some_iff.mp e2
  obtain rfl := lstD_ok e3
  refine h δ σ F H _ _ S e1 fun v F' H' x r => ?_
  obtain ⟨a, xs, rfl, h1, rl⟩ := rp_lst r
  exact ⟨a, xs, rfl, SqL.of (x.s _ _ h1), k _ F' H' x (its_enumL h1 rl)⟩
/-! dict comprehensions whose keys are tuples -/
def loopDC (st : DS → D → Option DS) (t : M Bool) (mk mv : M D) (δ : DS) : List D → List D → List D → Option D
  | [], ks, vs => some (.dct true ks vs)
  | d :: ds, ks, vs => match st δ d with
    | none => none
    | some δ1 => match t δ1 with
      | some true => match mk δ1 with
        | some (.tup es) => match keysD es with
          | some k => match mv δ1 with
            | some y => loopDC st t mk mv δ ds (dPutK ks (.tup (k.map kD))) (dPutW ks vs (.tup (k.map kD)) y)
            | none => none
          | none => none
        | _ => none
      | some false => loopDC st t mk mv δ ds ks vs
      | none => none
def mDcT (vs : List Nat) (w : M (List D)) (st : DS → D → Option DS) (t : M Bool) (mk mv : M D) : M D := fun δ => (w δ).bind fun ds => if decide (ds.length < sizeLine) then loopDC st t mk mv (wipeD δ vs) ds [] [] else none
theorem ox_dcT {wi : TI} {g : TG} {st : DS → D → Option DS} {tt : TT} {t : M Bool} {tk tv : TE} {mk mv : M D} {w : M (List D)} {vs : List Nat} (hw : Wx c wi w) (hg : Gw c g st vs) (ht : Tx c tt t) (hk : Ex c tk mk) (he : Ex c tv mv) :
    Ox c (tDcT wi g tt tk tv vs) (mDcT vs w st t mk mv) := fun δ σ F H Q z S e k => by
  obtain ⟨ds, e1, e2⟩ := Option.bind_eq_some_iff.mp (show (w δ).bind _ = some z from e)
  split at e2
  case isFalse => cases e2
  case isTrue hl =>
  have hl := of_decide_eq_true hl
  refine hw δ σ F H _ ds S e1 fun J F1 H1 x1 it A hA => ?_
  have hFA : F1 A = none := none_of x1.s hA
  have xA : Ext F1 H1 F1 (upd H1 A (.dT [])) := Ext.temp x1.s hA
  refine ⟨fun i n H' => n = ds.length - i ∧ i ≤ ds.length ∧ ∃ F' kvs ks ws, Ext F1 H1 F' H' ∧ F' A = none ∧ H' A = some (.dT kvs) ∧ kvs.map (fun p => D.tup (p.1.map kD)) = ks ∧ RpL c.K F' (kvs.map (·.2)) ws ∧ kvs.length ≤ i ∧ loopDC st t mk mv (wipeD δ vs) (ds.drop i) ks ws = some z,
    ⟨ds.length, by simp, Nat.zero_le _, F1, [], [], [], xA, hFA, upd_same, rfl, .nil, Nat.le_refl _, e2⟩, ?_⟩
  rintro i n H2 ⟨rfl, hi, F2, kvs, ks, ws, x2, hF2, hH2, hks, rl, ha, e4⟩
  by_cases hlt : i < ds.length
  · refine .inr ⟨it.go i F2 H2 x2.f x2.s hlt, ?_⟩
    cases q : ds.drop i with
    | nil =>
      have := congrArg List.length q
      rw [List.length_drop] at this
      simp at this
      omega
    | cons d r =>
      obtain ⟨g1, g2, _⟩ := drop_get q
      rw [q] at e4
      unfold loopDC at e4
      refine ⟨fun H' => ∃ F' kvs ks ws, Ext F1 H1 F' H' ∧ F' A = none ∧ H' A = some (.dT kvs) ∧ kvs.map (fun p => D.tup (p.1.map kD)) = ks ∧ RpL c.K F' (kvs.map (·.2)) ws ∧ kvs.length ≤ i + 1 ∧ loopDC st t mk mv (wipeD δ vs) (ds.drop (i + 1)) ks ws = some z, fun H' z => ⟨_, by omega, rfl, hlt, z⟩, fun x H3 y => ?_⟩
      obtain ⟨F3, x3, r3⟩ := it.yld i F2 H2 x H3 d x2.f x2.s g1 y
      have S3 : SR c.K c.F0 c.H0 F3 H3 (L2.wipe σ vs) (wipeD δ vs) := (((S.up x1).up x2).up x3).wipes vs
      have hF3 : F3 A = none := x3.n A _ hF2 hH2 rfl
      have hH3 : H3 A = some (.dT kvs) := x3.h A _ hH2
      cases q1 : st (wipeD δ vs) d with
      | none => rw [q1] at e4; cases e4
      | some δ3 =>
        rw [q1] at e4
        dsimp only at e4
        refine hg _ δ3 σ F3 H3 _ x d S3 r3 q1 fun σ4 S4 hw4 => ⟨hw4, ?_⟩
        cases q2 : t δ3 with
        | none => rw [q2] at e4; cases e4
        | some k1 =>
          rw [q2] at e4
          refine ht δ3 σ4 F3 H3 _ k1 S4 q2 fun F5 H5 x5 => ?_
          have hF5 : F5 A = none := x5.n A _ hF3 hH3 rfl
          have hH5 : H5 A = some (.dT kvs) := x5.h A _ hH3
          cases k1 with
          | false =>
            refine iteF ⟨F5, kvs, ks, ws, (x2.trans x3).trans x5, hF5, hH5, hks, (rl.mono x3.f).mono x5.f, by omega, by rw [g2]; exact e4⟩
          | true =>
            dsimp only at e4
            split at e4
            case h_2 => cases e4
            rename_i es q3
            cases q4 : keysD es with
            | none => rw [q4] at e4; cases e4
            | some ky =>
              rw [q4] at e4
              dsimp only at e4
              cases q5 : mv δ3 with
              | none => rw [q5] at e4; cases e4
              | some yv =>
                rw [q5] at e4
                dsimp only at e4
                refine iteT (hk δ3 σ4 F5 H5 _ _ (S4.up x5) q3 fun v F6 H6 x6 r6 => he δ3 σ4 F6 H6 _ yv ((S4.up x5).up x6) q5 fun w F7 H7 x7 r7 => ?_)
                have hF6 : F6 A = none := x6.n A _ hF5 hH5 rfl
                have hH6 : H6 A = some (.dT kvs) := x6.h A _ hH5
                have hF7 : F7 A = none := x7.n A _ hF6 hH6 rfl
                have hH7 : H7 A = some (.dT kvs) := x7.h A _ hH6
                obtain ⟨b, xs, rfl, e6, rk⟩ := rp_tup r6
                rw [keysD_ok q4] at rk
                obtain rfl := rp_keys rk
                have hx : Ext F1 H1 F7 H7 := (((x2.trans x3).trans x5).trans x6).trans x7
                have rl7 : RpL c.K F7 (kvs.map (·.2)) ws := (((rl.mono x3.f).mono x5.f).mono x6.f).mono x7.f
                subst hks
                obtain ⟨z1, z2⟩ := putK_put (fun k : List Key => D.tup (k.map kD)) beqK_tup ky r7 rl7
                refine ⟨kvs, ky, b, rfl, x7.s _ _ (x7.f _ _ e6), hH7, by omega, F7, _, _, _, ⟨hx.f, fun b o z => ?_, fun b o z => ?_, hx.n⟩, hF7, upd_same, z1, z2, ?_, by rw [g2]; exact e4⟩
                · rw [upd_ne (ne_of_none z hA)]; exact hx.h b o z
                · rw [upd_ne (ne_of_none z hF7)]; exact hx.s b o z
                · have := length_putK kvs ky w; omega
  · have e : i = ds.length := by omega
    subst e
    rw [List.drop_length] at e4
    unfold loopDC at e4
    cases e4
    refine .inl ⟨it.stop F2 H2 x2.f x2.s, k A _ F2 H2 (x1.trans x2) (ext_none x1 hA).2 hH2 hF2 (.dT hks rl)⟩
end
end DL

namespace DL
open PySem PySem.Spec L2

section
variable {c : Cc} {ta tb tc : TE} {ma mb mc : M D}
/-! displays of dicts -/
theorem ox_dnewK : Ox c tDNewK (fun _ => some (.dct false [] [])) := fun δ σ F H Q z S e k => by
  cases e
  exact fun p hp => k p _ F _ (Ext.temp S.sFH hp) hp upd_same (none_of S.sFH hp) (.dK rfl .nil)
theorem ox_dnewT : Ox c tDNewT (fun _ => some (.dct true [] [])) := fun δ σ F H Q z S e k => by
  cases e
  exact fun p hp => k p _ F _ (Ext.temp S.sFH hp) hp upd_same (none_of S.sFH hp) (.dT rfl .nil)
theorem ext_upd {F H F' H' : Hp} {p : Addr} {o : HO} (x : Ext F H F' H') (hp : H p = none) (hf : F' p = none) : Ext F H F' (upd H' p o) :=
  ⟨x.f, fun b u e => by rw [upd_ne (ne_of_none e hp)]; exact x.h b u e, fun b u e => by rw [upd_ne (ne_of_none e hf)]; exact x.s b u e, x.n⟩
def mDispT (mk mv : M D) : M D := fun δ => (mk δ).bind fun e => match e with
  | .tup es => (keysD es).bind fun k => (mv δ).map fun y => .dct true [.tup (k.map kD)] [y]
  | _ => none
theorem ox_dispT {tk tv : TE} {mk mv : M D} (hk : Ex c tk mk) (hv : Ex c tv mv) : Ox c (tDispT tk tv) (mDispT mk mv) := fun δ σ F H Q z S e k p hp => by
  obtain ⟨d, e1, e2⟩ := Option.bind_eq_some_iff.mp e
  have xp : Ext F H F (upd H p (.dT [])) := Ext.temp S.sFH hp
  have hF : F p = none := none_of S.sFH hp
  split at e2
  · obtain ⟨ky, e3, e4⟩ := Option.bind_eq_some_iff.mp e2
    obtain ⟨y, e5, rfl⟩ := Option.map_eq_some_iff.mp e4
    refine hk δ σ F _ _ _ (S.up xp) e1 fun v F1 H1 x1 r1 => hv δ σ F1 H1 _ y ((S.up xp).up x1) e5 fun w F2 H2 x2 r2 => ?_
    obtain ⟨b, xs, rfl, e6, rk⟩ := rp_tup r1
    rw [keysD_ok e3] at rk
    obtain rfl := rp_keys rk
    have x12 := x1.trans x2
    have hH2 := x12.h p _ upd_same
    have hF2 := x12.n p _ hF upd_same rfl
    exact ⟨hH2, ky, b, rfl, x2.s _ _ (x2.f _ _ e6), k p _ F2 _ (ext_upd (xp.trans x12) hp hF2) hp upd_same hF2 (.dT rfl (.cons r2 .nil))⟩
  · cases e2
/-- pairs of a display -/
def mPairs : List (M D × M D) → M (List (Key × D))
  | [] => fun _ => some []
  | (mk, mv) :: ms => fun δ => (mk δ).bind fun e => (keyD e).bind fun k => (mv δ).bind fun y => (mPairs ms δ).map fun r => (k, y) :: r
inductive PxA (c : Cc) : List (TE × TE) → List (M D × M D) → Prop
  | nil : PxA c [] []
  | cons {tk tv : TE} {mk mv : M D} {ts : List (TE × TE)} {ms : List (M D × M D)} : Ex c tk mk → Ex c tv mv → PxA c ts ms → PxA c ((tk, tv) :: ts) ((mk, mv) :: ms)
theorem px_run : ∀ {trs : List (TE × TE)} {ms : List (M D × M D)}, PxA c trs ms → ∀ (δ : DS) (σ : St) (F H : Hp) (Q : List (V × V) → Hp → Prop) (kds : List (Key × D)), SR c.K c.F0 c.H0 F H σ δ → mPairs ms δ = some kds →
    (∀ (kvs : List (Key × V)) F' H', Ext F H F' H' → kvs.map (·.1) = kds.map (·.1) → RpL c.K F' (kvs.map (·.2)) (kds.map (·.2)) → Q (kvs.map fun kv => (kV kv.1, kv.2)) H') → tPairs trs σ H Q
  | _, _, .nil, δ, σ, F, H, Q, kds, S, e, k => by
    cases e
    exact k [] F H (Ext.refl S.sFH) rfl .nil
  | _, _, .cons hk hv r, δ, σ, F, H, Q, kds, S, e, k => by
    obtain ⟨d, e1, f1⟩ := Option.bind_eq_some_iff.mp e
    obtain ⟨ky, e2, f2⟩ := Option.bind_eq_some_iff.mp f1
    obtain ⟨y, e3, f3⟩ := Option.bind_eq_some_iff.mp f2
    obtain ⟨kr, e4, rfl⟩ := Option.map_eq_some_iff.mp f3
    refine hk δ σ F H _ d S e1 fun v F1 H1 x1 r1 => hv δ σ F1 H1 _ y (S.up x1) e3 fun w F2 H2 x2 r2 => ?_
    refine px_run r δ σ F2 H2 _ kr ((S.up x1).up x2) e4 fun kvs F3 H3 x3 z1 z2 => ?_
    obtain rfl := rp_key (by rw [← keyD_ok e2]; exact r1)
    exact k ((ky, w) :: kvs) F3 H3 ((x1.trans x2).trans x3) (by rw [List.map_cons, List.map_cons, z1]) (.cons (r2.mono x3.f) z2)
def foldPut (g : D → D) : List D → List D → List (D × D) → List D × List D
  | ks, vs, [] => (ks, vs)
  | ks, vs, (k, y) :: r => foldPut g (dPutK ks k) (dPutW ks vs k y) r
def putAll (ks vs : List D) : List (D × D) → List D × List D
  | [] => (ks, vs)
  | (k, y) :: r => putAll (dPutK ks k) (dPutW ks vs k y) r
theorem merge_put {K : PySem.W.Frag} {F : Hp} : ∀ {more : List (Key × V)} {kds : List (Key × D)} {kvs : List (Key × V)} {ks vs : List D}, more.map (·.1) = kds.map (·.1) → RpL K F (more.map (·.2)) (kds.map (·.2)) → kvs.map (fun p => kD p.1) = ks → RpL K F (kvs.map (·.2)) vs →
    RpO K F (.dK (mergeK kvs more)) (.dct false (putAll ks vs (kds.map fun p => (kD p.1, p.2))).1 (putAll ks vs (kds.map fun p => (kD p.1, p.2))).2)
  | [], [], kvs, ks, vs, _, _, h1, h2 => .dK h1 h2
  | [], _ :: _, _, _, _, h, _, _, _ => by simp at h
  | _ :: _, [], _, _, _, h, _, _, _ => by simp at h
  | (k, v) :: more, (k', y) :: kds, kvs, ks, vs, h, r, h1, h2 => by
    simp only [List.map_cons, List.cons.injEq] at h
    obtain ⟨rfl, h⟩ := h
    cases r with
    | cons r1 r2 =>
      subst h1
      obtain ⟨z1, z2⟩ := putK_put kD beqK_key k r1 h2
      exact merge_put (more := more) (kds := kds) (kvs := putK kvs k v) h r2 z1 z2
def mDisp (ms : List (M D × M D)) : M D := fun δ => (mPairs ms δ).bind fun kds => if decide (kds.length ≤ 15) then (let r := putAll [] [] (kds.map fun p => (kD p.1, p.2)); some (.dct false r.1 r.2)) else none
theorem ox_disp {trs : List (TE × TE)} {ms : List (M D × M D)} (h : PxA c trs ms) : Ox c (tDisp trs) (mDisp ms) := fun δ σ F H Q z S e k p hp => by
  obtain ⟨kds, e1, e2⟩ := Option.bind_eq_some_iff.mp (show (mPairs ms δ).bind _ = some z from e)
  split at e2
  · rename_i hl
    have hl := of_decide_eq_true hl
    cases e2
    have xp : Ext F H F (upd H p (.dK [])) := Ext.temp S.sFH hp
    have hF : F p = none := none_of S.sFH hp
    refine px_run h δ σ F _ _ kds (S.up xp) e1 fun kvs F1 H1 x1 z1 z2 => ?_
    have hH1 := x1.h p _ upd_same
    have hF1 := x1.n p _ hF upd_same rfl
    have hlen : kvs.length = kds.length := by
      have := congrArg List.length z1
      rwa [List.length_map, List.length_map] at this
    exact ⟨hH1, kvs, rfl, by omega, k p _ F1 _ (ext_upd (xp.trans x1) hp hF1) hp upd_same hF1 (merge_put z1 z2 rfl .nil)⟩
  · cases e2
/-! dict(pairs) -/
def pairT : D → Option (List Key × D)
  | .tup [.tup es, y] => (keysD es).map fun k => (k, y)
  | _ => none
def pairsT : List D → Option (List (List Key × D))
  | [] => some []
  | d :: ds => (pairT d).bind fun p => (pairsT ds).map fun r => p :: r
theorem pairT_ok {d : D} {k : List Key} {y : D} (h : pairT d = some (k, y)) : ∃ es, d = .tup [.tup es, y] ∧ es = k.map kD := by
  unfold pairT at h
  split at h
  · rename_i es y'
    obtain ⟨k', h1, h2⟩ := Option.map_eq_some_iff.mp h
    cases h2
    exact ⟨es, rfl, keysD_ok h1⟩
  · cases h
theorem pairsT_ok {K : PySem.W.Frag} {F H : Hp} (s : Same F H) : ∀ {ds : List D} {vs : List V} {kds : List (List Key × D)}, RpL K F vs ds → pairsT ds = some kds → ∃ (ps : List Addr) (kvs : List (List Key × Addr × V)), vs = ps.map V.ref ∧ Paired (fun p (kv : List Key × Addr × V) => SqT K H p [.ref kv.2.1, kv.2.2] ∧ H kv.2.1 = some (.tup (kv.1.map kV))) ps kvs ∧ kvs.map (·.1) = kds.map (·.1) ∧ RpL K F (kvs.map fun p => p.2.2) (kds.map (·.2))
  | [], _, _, r, h => by cases h; cases r; exact ⟨[], [], rfl, .nil, rfl, .nil⟩
  | d :: ds, _, _, r, h => by
    obtain ⟨⟨k, y⟩, h1, h2⟩ := Option.bind_eq_some_iff.mp (show ((pairT d).bind fun p => (pairsT ds).map fun r => p :: r) = some _ from h)
    obtain ⟨kr, h3, rfl⟩ := Option.map_eq_some_iff.mp h2
    cases r with
    | cons r1 r2 =>
      obtain ⟨es, rfl, rfl⟩ := pairT_ok h1
      obtain ⟨p, xs, rfl, e1, rl⟩ := rp_tup r1
      cases rl with
      | cons q1 rl =>
        cases rl with
        | cons q2 rl =>
          cases rl
          obtain ⟨b, ks, rfl, e2, rk⟩ := rp_tup q1
          obtain rfl := rp_keys rk
          obtain ⟨ps, kvs, rfl, z1, z2, z3⟩ := pairsT_ok s r2 h3
          exact ⟨p :: ps, (k, b, _) :: kvs, rfl, .cons ⟨SqT.of (s _ _ e1), s _ _ e2⟩ z1, by rw [List.map_cons, List.map_cons, z2], .cons q2 z3⟩
def tK (k : List Key) : D := .tup (k.map kD)
theorem mergeT_put {K : PySem.W.Frag} {F : Hp} : ∀ {more : List (List Key × Addr × V)} {kds : List (List Key × D)} {kvs : List (List Key × V)} {ks vs : List D}, more.map (·.1) = kds.map (·.1) → RpL K F (more.map fun p => p.2.2) (kds.map (·.2)) → kvs.map (fun p => D.tup (p.1.map kD)) = ks → RpL K F (kvs.map (·.2)) vs →
    RpO K F (.dT (mergeT kvs more)) (.dct true (putAll ks vs (kds.map fun p => (tK p.1, p.2))).1 (putAll ks vs (kds.map fun p => (tK p.1, p.2))).2)
  | [], [], kvs, ks, vs, _, _, h1, h2 => .dT h1 h2
  | [], _ :: _, _, _, _, h, _, _, _ => by simp at h
  | _ :: _, [], _, _, _, h, _, _, _ => by simp at h
  | (k, b, v) :: more, (k', y) :: kds, kvs, ks, vs, h, r, h1, h2 => by
    simp only [List.map_cons, List.cons.injEq] at h
    obtain ⟨rfl, h⟩ := h
    cases r with
    | cons r1 r2 =>
      subst h1
      obtain ⟨z1, z2⟩ := putK_put (fun k : List Key => D.tup (k.map kD)) beqK_tup k r1 h2
      exact mergeT_put (more := more) (kds := kds) (kvs := putK kvs k v) h r2 z1 z2
def fDictT (d : D) : Option D := (lstD d).bind fun ds => (pairsT ds).map fun kds => (let r := putAll [] [] (kds.map fun p => (tK p.1, p.2)); .dct true r.1 r.2)
theorem co_dictT : CO c (rDictT c.K) (f1 fDictT) := fun F H vs ds z Q s r h k => by
  obtain ⟨d, rfl, h0⟩ := f1_some h
  obtain ⟨es, h1, h2⟩ := Option.bind_eq_some_iff.mp h0
  obtain ⟨kds, h3, rfl⟩ := Option.map_eq_some_iff.mp h2
  obtain rfl := lstD_ok h1
  obtain ⟨v, rfl, r1⟩ := rbl1 r
  obtain ⟨a, xs, rfl, e, rl⟩ := r1.lst s
  obtain ⟨ps, kvs, rfl, z1, z2, z3⟩ := pairsT_ok s rl h3
  exact ⟨a, ps, kvs, rfl, SqL.of e, z1, fun p hp => k p _ F _ (Ext.temp s hp) hp upd_same (none_of s hp) (mergeT_put z2 z3 rfl .nil)⟩
/-- .. keys ints, texts -/
def pairK : D → Option (Key × D)
  | .tup [x, y] => (keyD x).map fun k => (k, y)
  | _ => none
def pairsK : List D → Option (List (Key × D))
  | [] => some []
  | d :: ds => (pairK d).bind fun p => (pairsK ds).map fun r => p :: r
theorem pairsK_ok {K : PySem.W.Frag} {F H : Hp} (s : Same F H) : ∀ {ds : List D} {vs : List V} {kds : List (Key × D)}, RpL K F vs ds → pairsK ds = some kds → ∃ (ps : List Addr) (kvs : List (Key × V)), vs = ps.map V.ref ∧ Paired (fun p (kv : Key × V) => SqT K H p [kV kv.1, kv.2]) ps kvs ∧ kvs.map (·.1) = kds.map (·.1) ∧ RpL K F (kvs.map (·.2)) (kds.map (·.2))
  | [], _, _, r, h => by cases h; cases r; exact ⟨[], [], rfl, .nil, rfl, .nil⟩
  | d :: ds, _, _, r, h => by
    obtain ⟨⟨k, y⟩, h1, h2⟩ := Option.bind_eq_some_iff.mp (show ((pairK d).bind fun p => (pairsK ds).map fun r => p :: r) = some _ from h)
    obtain ⟨kr, h3, rfl⟩ := Option.map_eq_some_iff.mp h2
    cases r with
    | cons r1 r2 =>
      unfold pairK at h1
      split at h1
      · rename_i x y'
        obtain ⟨k', h4, h5⟩ := Option.map_eq_some_iff.mp h1
        cases h5
        obtain ⟨p, xs, rfl, e1, rl⟩ := rp_tup r1
        cases rl with
        | cons q1 rl =>
          cases rl with
          | cons q2 rl =>
            cases rl
            obtain rfl := rp_key (by rw [← keyD_ok h4]; exact q1)
            obtain ⟨ps, kvs, rfl, z1, z2, z3⟩ := pairsK_ok s r2 h3
            exact ⟨p :: ps, (k, _) :: kvs, rfl, .cons (SqT.of (s _ _ e1)) z1, by rw [List.map_cons, List.map_cons, z2], .cons q2 z3⟩
      · cases h1
def fDictK (d : D) : Option D := (lstD d).bind fun ds => (pairsK ds).map fun kds => (let r := putAll [] [] (kds.map fun p => (kD p.1, p.2)); .dct false r.1 r.2)
theorem co_dictK : CO c (fun xs H Q => ∃ (a : Addr) (ps : List Addr) (kvs : List (Key × V)), xs = [.ref a] ∧ SqL c.K H a (ps.map V.ref) ∧ Paired (fun p kv => SqT c.K H p [kV kv.1, kv.2]) ps kvs ∧ ∀ p, H p = none → Q (.ref p) (upd H p (.dK (mergeK [] kvs)))) (f1 fDictK) := fun F H vs ds z Q s r h k => by
  obtain ⟨d, rfl, h0⟩ := f1_some h
  obtain ⟨es, h1, h2⟩ := Option.bind_eq_some_iff.mp h0
  obtain ⟨kds, h3, rfl⟩ := Option.map_eq_some_iff.mp h2
  obtain rfl := lstD_ok h1
  obtain ⟨v, rfl, r1⟩ := rbl1 r
  obtain ⟨a, xs, rfl, e, rl⟩ := r1.lst s
  obtain ⟨ps, kvs, rfl, z1, z2, z3⟩ := pairsK_ok s rl h3
  exact ⟨a, ps, kvs, rfl, SqL.of e, z1, fun p hp => k p _ F _ (Ext.temp s hp) hp upd_same (none_of s hp) (merge_put z2 z3 rfl .nil)⟩
end
end DL

namespace DL
open PySem PySem.Spec L2

section
variable {c : Cc} {ta tb tc : TE} {ma mb mc : M D}
/-! sorted texts -/
def leS (a b : Str) : Prop := a.cps.toList ≤ b.cps.toList
theorem leS_trans {a b d : Str} (h1 : leS a b) (h2 : leS b d) : leS a d := List.le_trans h1 h2
theorem leS_anti {a b : Str} (h1 : leS a b) (h2 : leS b a) : a = b := by
  have := List.le_antisymm h1 h2
  obtain ⟨x⟩ := a
  obtain ⟨y⟩ := b
  congr 1
  exact Array.toList_inj.mp this
theorem rising_pair : ∀ {l : List Str} {a : Str}, PyProof.Rows.risingS a l = true → (a :: l).Pairwise leS
  | [], a, _ => List.pairwise_singleton _ _
  | b :: l, a, h => by
    have h : (!ltCps b.cps.toList a.cps.toList && PyProof.Rows.risingS b l) = true := h
    obtain ⟨h1, h2⟩ := (Bool.and_eq_true _ _).mp h
    have ih := rising_pair h2
    have hab : leS a b := by
      have : ltCps b.cps.toList a.cps.toList = false := by simpa using h1
      rw [PyProof.Rows.ltCps_eq] at this
      exact List.not_lt.mp (of_decide_eq_false this)
    refine List.pairwise_cons.mpr ⟨fun y hy => ?_, ih⟩
    rcases List.mem_cons.mp hy with rfl | hy
    · exact hab
    · exact leS_trans hab ((List.pairwise_cons.mp ih).1 y hy)
theorem sorted_pair {l : List Str} (h : PyProof.Rows.sortedS l = true) : l.Pairwise leS := by
  cases l with
  | nil => exact List.Pairwise.nil
  | cons a l => exact rising_pair h
def insS (i : Str) : List Str → List Str
  | [] => [i]
  | j :: js => if ltCps j.cps.toList i.cps.toList then j :: insS i js else i :: j :: js
def sortS : List Str → List Str
  | [] => []
  | i :: is => insS i (sortS is)
theorem insS_perm (i : Str) : ∀ js, (insS i js).Perm (i :: js)
  | [] => List.Perm.refl _
  | j :: js => by
    unfold insS
    split
    · exact ((insS_perm i js).cons j).trans (List.Perm.swap i j js)
    · exact List.Perm.refl _
theorem sortS_perm : ∀ is, (sortS is).Perm is
  | [] => List.Perm.refl _
  | i :: is => (insS_perm i _).trans ((sortS_perm is).cons i)
theorem insS_sorted (i : Str) : ∀ js : List Str, js.Pairwise leS → (insS i js).Pairwise leS
  | [], _ => List.pairwise_singleton _ _
  | j :: js, h => by
    unfold insS
    obtain ⟨h1, h2⟩ := List.pairwise_cons.mp h
    split
    · rename_i hij
      rw [PyProof.Rows.ltCps_eq] at hij
      have hji : leS j i := List.le_of_lt (of_decide_eq_true hij)
      refine List.pairwise_cons.mpr ⟨fun y hy => ?_, insS_sorted i js h2⟩
      rcases List.mem_cons.mp ((insS_perm i js).mem_iff.mp hy) with rfl | hy
      · exact hji
      · exact h1 y hy
    · rename_i hij
      rw [PyProof.Rows.ltCps_eq] at hij
      have hle : leS i j := List.not_lt.mp (by simpa using hij)
      refine List.pairwise_cons.mpr ⟨fun y hy => ?_, h⟩
      rcases List.mem_cons.mp hy with rfl | hy
      · exact hle
      · exact leS_trans hle (h1 y hy)
theorem sortS_sorted : ∀ is, (sortS is).Pairwise leS
  | [] => List.Pairwise.nil
  | i :: is => insS_sorted i _ (sortS_sorted is)
theorem sortS_uniq : ∀ {a b : List Str}, a.Perm b → a.Pairwise leS → b.Pairwise leS → a = b
  | [], b, p, _, _ => (List.nil_perm.mp p).symm
  | x :: a, b, p, ha, hb => by
    cases b with
    | nil => exact absurd p.length_eq (by simp)
    | cons y b =>
      obtain ⟨h1, h2⟩ := List.pairwise_cons.mp ha
      obtain ⟨h3, h4⟩ := List.pairwise_cons.mp hb
      have e : x = y := by
        have m1 : x ∈ y :: b := p.mem_iff.mp List.mem_cons_self
        have m2 : y ∈ x :: a := p.mem_iff.mpr List.mem_cons_self
        rcases List.mem_cons.mp m1 with e | m1
        · exact e
        rcases List.mem_cons.mp m2 with e | m2
        · exact e.symm
        exact leS_anti (h1 y m2) (h3 x m1)
      subst e
      rw [sortS_uniq (List.Perm.cons_inv p) h2 h4]
def strsD : List D → Option (List Str)
  | [] => some []
  | .str i :: ds => (strsD ds).map fun is => i :: is
  | _ :: _ => none
theorem strs_keys : ∀ {kvs : List (Key × V)} {is : List Str}, strsD (kvs.map fun p => kD p.1) = some is → kvs.map (·.1) = is.map Sum.inr
  | [], b, h => by cases h; rfl
  | (.inr i, v) :: k, b, h => by
    obtain ⟨us, h3, rfl⟩ := Option.map_eq_some_iff.mp (show (strsD (k.map fun p => kD p.1)).map (fun is => i :: is) = some b from h)
    rw [List.map_cons, strs_keys h3]; rfl
  | (.inl x, v) :: k, b, h => by cases h
theorem rpl_strs {K : PySem.W.Frag} {F : Hp} : ∀ is : List Str, RpL K F (is.map V.str) (is.map D.str)
  | [] => .nil
  | i :: is => .cons (.str i) (rpl_strs is)
def fSortedKS (d : D) : Option D := match d with
  | .dct false ks _ => (strsD ks).bind fun is => if decide (is.length < 64) then some (.lst ((sortS is).map D.str)) else none
  | _ => none
theorem co_sortedKS : CO c (fun xs H Q => ∃ (a : Addr) (kvs : List (Key × V)) (ks : List Str), xs = [.ref a] ∧ Rd H a (.dK kvs) ∧ kvs.map (·.1) = ks.map Sum.inr ∧ ks.length < 64 ∧ ∀ (ys : List Str) (p : Addr), ys.Perm ks → PyProof.Rows.sortedS ys = true → H p = none → Q (.ref p) (upd H p (.lst (ys.map V.str)))) (f1 fSortedKS) := fun F H vs ds z Q s r h k => by
  obtain ⟨d, rfl, h0⟩ := f1_some h
  clear h
  obtain ⟨v, rfl, r1⟩ := rbl1 r
  unfold fSortedKS at h0
  split at h0
  · obtain ⟨is, h2, h3⟩ := Option.bind_eq_some_iff.mp h0
    split at h3
    · rename_i hl
      cases h3
      obtain ⟨a, kvs, rfl, e, e2, rl⟩ := r1.dK s
      subst e2
      refine ⟨a, kvs, is, rfl, .inl e, strs_keys h2, of_decide_eq_true hl, fun ns' p pm sr hp => ?_⟩
      obtain rfl := sortS_uniq (pm.trans (sortS_perm is).symm) (sorted_pair sr) (sortS_sorted is)
      exact k p _ F _ (Ext.temp s hp) hp upd_same (none_of s hp) (.lst (rpl_strs _))
    · cases h3
  · cases h0
/-! texts and ints -/
def fStr (d : D) : Option D := match d with
  | .int i => if decide (i.natAbs.log2 < 1920) then some (.str (Str.ofString (toString i))) else none
  | _ => none
theorem cb_strI : CB c (fun xs H Q => ∃ i, xs = [V.int i] ∧ i.natAbs.log2 < 1920 ∧ Q (V.str (Str.ofString (toString i))) H) (f1 fStr) := fun F H vs ds z Q s r h k => by
  obtain ⟨d, rfl, h0⟩ := f1_some h
  clear h
  obtain ⟨v, rfl, r1⟩ := rbl1 r
  unfold fStr at h0
  split at h0
  · split at h0
    · rename_i hl
      cases h0
      obtain rfl := rp_int (r1.h s)
      exact ⟨_, rfl, of_decide_eq_true hl, k _ F H (Ext.refl s) (.str _)⟩
    · cases h0
  · cases h0
def fInt (d : D) : Option D := match d with
  | .str a => if decide (a.length ≤ 640) then (intText? a).map D.int else none
  | _ => none
theorem cb_intS : CB c (fun xs H Q => ∃ a n, xs = [V.str a] ∧ intText? a = some n ∧ a.length ≤ 640 ∧ Q (V.int n) H) (f1 fInt) := fun F H vs ds z Q s r h k => by
  obtain ⟨d, rfl, h0⟩ := f1_some h
  clear h
  obtain ⟨v, rfl, r1⟩ := rbl1 r
  unfold fInt at h0
  split at h0
  · split at h0
    · rename_i hl
      obtain ⟨n, h1, rfl⟩ := Option.map_eq_some_iff.mp h0
      obtain rfl := rp_str (r1.h s)
      exact ⟨_, n, rfl, h1, of_decide_eq_true hl, k _ F H (Ext.refl s) (.int _)⟩
    · cases h0
  · cases h0
/-- int(x), x an int or a bool -/
def fInt1 (d : D) : Option D := match d with
  | .int i => some (.int i)
  | .bl b => some (.int (if b then 1 else 0))
  | _ => none
theorem cb_int1 : CB c (fun xs H Q => (∃ i, xs = [V.int i] ∧ Q (V.int i) H) ∨ ∃ k, xs = [V.bl k] ∧ Q (V.int (if k then 1 else 0)) H) (f1 fInt1) := fun F H vs ds z Q s r h k => by
  obtain ⟨d, rfl, h0⟩ := f1_some h
  clear h
  obtain ⟨v, rfl, r1⟩ := rbl1 r
  unfold fInt1 at h0
  split at h0
  · cases h0
    obtain rfl := rp_int (r1.h s)
    exact .inl ⟨_, rfl, k _ F H (Ext.refl s) (.int _)⟩
  · cases h0
    obtain rfl := rp_bl (r1.h s)
    exact .inr ⟨_, rfl, k _ F H (Ext.refl s) (.int _)⟩
  · cases h0
/-- a + b, texts -/
def fCatS (d e : D) : Option D := match d, e with
  | .str a, .str b => if decide (a.length + b.length ≤ sizeLine) then some (.str (a ++ b)) else none
  | _, _ => none
theorem op_catS : OpB c (fun x y H Q => ∃ i j, x = V.str i ∧ y = V.str j ∧ i.length + j.length ≤ sizeLine ∧ Q (V.str (i ++ j)) H) fCatS := fun F H x y d e z Q s r1 r2 h k => by
  unfold fCatS at h
  split at h
  · split at h
    · rename_i hl
      cases h
      obtain rfl := rp_str r1
      obtain rfl := rp_str r2
      exact ⟨_, _, rfl, rfl, of_decide_eq_true hl, k _ F H (Ext.refl s) (.str _)⟩
    · cases h
  · cases h
/-- s[i:] -/
def fCutS (d e : D) : Option D := match d, e with
  | .str a, .int i => if decide (a.length ≤ sizeLine) then some (.str (cutS a (some i) none)) else none
  | _, _ => none
theorem ex_cutS (ha : Ex c ta ma) (hb : Ex c tb mb) : Ex c (tSl rSlS ta (tPart tb) (fun _ H Q => Q none H)) (m2 fCutS ma mb) := fun δ σ F H Q z S e k => by
  obtain ⟨d1, d2, e1, e2, e3⟩ := m2_some e
  unfold fCutS at e3
  split at e3
  · split at e3
    · rename_i hl
      cases e3
      refine ha δ σ F H _ _ S e1 fun x F1 H1 x1 r1 => hb δ σ F1 H1 _ _ (S.up x1) e2 fun y F2 H2 x2 r2 => ?_
      obtain rfl := rp_str r1
      obtain rfl := rp_int r2
      exact ⟨_, rfl, _, rfl, of_decide_eq_true hl, k _ F2 H2 (x1.trans x2) (.str _)⟩
    · cases e3
  · cases e3
/-! tuple(range(..)), list(range(..)) -/
def rgD (a b : Int) : List D := (List.range (b - a).toNat).map fun (i : Nat) => D.int (a + (i : Nat))
theorem rpl_rg {K : PySem.W.Frag} {F : Hp} (a b : Int) : RpL K F (rgV a b) (rgD a b) := by
  unfold rgV rgD
  generalize List.range (b - a).toNat = l
  induction l with
  | nil => exact .nil
  | cons i l ih => exact .cons (.int _) ih
def okRg (a b : Int) : Bool := decide (-(2 ^ 62) ≤ a) && decide (a < 2 ^ 62) && decide (-(2 ^ 62) ≤ b) && decide (b < 2 ^ 62) && decide ((b - a).toNat ≤ 2 ^ 24)
theorem okRg_ok {a b : Int} (h : okRg a b = true) : RgOk a b := by
  unfold okRg at h
  simp only [Bool.and_eq_true, decide_eq_true_eq] at h
  exact ⟨h.1.1.1.1, h.1.1.1.2, h.1.1.2, h.1.2, h.2⟩
def fTupR (d : D) : Option D := match d with
  | .int n => if okRg 0 n then some (.tup (rgD 0 n)) else none
  | _ => none
def mF (f : D → Option D) (m : M D) : M D := fun δ => (m δ).bind f
theorem ex_tupRg (ha : Ex c ta ma) : Ex c (tTupRg (tRg1 ta)) (mF fTupR ma) := fun δ σ F H Q z S e k => by
  obtain ⟨d, e1, e2⟩ := Option.bind_eq_some_iff.mp (show (ma δ).bind fTupR = some z from e)
  unfold fTupR at e2
  split at e2
  · split at e2
    · rename_i n h
      cases e2
      refine ha δ σ F H _ _ S e1 fun x F1 H1 x1 r1 => ?_
      obtain rfl := rp_int r1
      refine ⟨_, rfl, okRg_ok h, fun q hq => ?_⟩
      have x2 : Ext F1 H1 (upd F1 q (.tup (rgV 0 n))) (upd H1 q (.tup (rgV 0 n))) := Ext.laid x1.s hq
      exact k _ _ _ (x1.trans x2) (.obj upd_same (.tup (rpl_rg _ _)))
    · cases e2
  · cases e2
/-! len(set(t)) -/
def fLenSet (d : D) : Option D := (tupD d).bind fun ds => (intsD ds).bind fun is => if decide (is.length + 1 < scanBound) then some (.int ((diffI is).length : Nat)) else none
theorem ex_lenSet (ha : Ex c ta ma) : Ex c (tCB rLenS (tCons (tCB (rSetT c.K) (tCons ta tNil)) tNil)) (mF fLenSet ma) := fun δ σ F H Q z S e k => by
  obtain ⟨d, e1, e2⟩ := Option.bind_eq_some_iff.mp (show (ma δ).bind fLenSet = some z from e)
  obtain ⟨ds, e3, e4⟩ := Option.bind_eq_some_iff.mp e2
  obtain ⟨is, e5, e6⟩ := Option.bind_eq_some_iff.mp e4
  split at e6
  · rename_i hl
    cases e6
    refine ha δ σ F H _ _ S e1 fun x F1 H1 x1 r1 => ?_
    obtain ⟨a, xs, rfl, h1, rl⟩ := tupD_ok r1 e3
    obtain ⟨rfl, _⟩ := ints_ok rl e5
    refine ⟨a, is, rfl, same_seqT x1.s h1, of_decide_eq_true hl, fun p hp => ?_⟩
    exact ⟨p, _, _, rfl, upd_same, k _ F1 _ (x1.trans (Ext.temp x1.s hp)) (.int _)⟩
  · cases e6
/-! l.index(i) -/
def fLIdx (d e : D) : Option D := match d, e with
  | .lst ds, .int i => (intsD ds).bind fun is => if is.contains i then some (.int (is.idxOf i : Nat)) else none
  | _, _ => none
theorem ex_lidx (ha : Ex c ta ma) (hb : Ex c tb mb) : Ex c (tBM c.K "list" (rIndex c.K) ta (tCons tb tNil)) (m2 fLIdx ma mb) := fun δ σ F H Q z S e k => by
  obtain ⟨d1, d2, e1, e2, e3⟩ := m2_some e
  unfold fLIdx at e3
  split at e3
  · rename_i ds i
    obtain ⟨is, e4, e5⟩ := Option.bind_eq_some_iff.mp e3
    split at e5
    · rename_i hi
      cases e5
      have hi : i ∈ is := by simpa using hi
      refine ha δ σ F H _ _ S e1 fun x F1 H1 x1 r1 => ?_
      obtain ⟨a, xs, rfl, h1, rl⟩ := rp_lst r1
      refine ⟨.inl ⟨rfl, xs, SqL.of (x1.s _ _ h1)⟩, ?_⟩
      refine hb δ σ F1 H1 _ _ (S.up x1) e2 fun y F2 H2 x2 r2 => ?_
      obtain rfl := rp_int r2
      obtain ⟨rfl, _⟩ := ints_ok rl e4
      refine ⟨a, is.map V.int, .int i, is.idxOf i, .int i, rfl, rfl, SqL.of (x2.s _ _ (x2.f _ _ h1)), rfl, ?_, ?_, ?_, fun m z' hm hz => ?_, k _ F2 H2 (x1.trans x2) (.int _)⟩
      · rw [List.all_map]; exact List.all_eq_true.mpr fun _ _ => rfl
      · have hlt : is.idxOf i < is.length := List.findIdx_lt_length_of_exists ⟨i, hi, by simp⟩
        have hg : is[is.idxOf i] = i := by simpa using (List.findIdx_getElem (xs := is) (p := (· == i)) (w := hlt))
        rw [List.getElem?_map, List.getElem?_eq_getElem hlt, hg]; rfl
      · show (i == i) = true
        simp
      · rw [List.getElem?_map] at hz
        obtain ⟨j, hj, rfl⟩ := Option.map_eq_some_iff.mp hz
        show (j == i) = false
        have := List.not_of_lt_findIdx (xs := is) (p := (· == i)) hm
        obtain ⟨hlt, he⟩ := List.getElem?_eq_some_iff.mp hj
        rw [← he]
        simpa using this
    · cases e5
  · cases e3
/-! a, b = (e1, e2), both new things -/
def mOwn2 (i j : Nat) (ma mb : M D) : M Fl := fun δ => (ma δ).bind fun d => (mb δ).bind fun e => if isOwnD d && isOwnD e then some (.nx ((δ.set i (SV.own d)).set j (SV.own e))) else none
theorem sx_own2 (i j : Nat) (ha : Ox c ta ma) (hb : Ox c tb mb) : Sx c (tPar i j (tCons ta (tCons tb tNil))) (mOwn2 i j ma mb) := fun δ σ F H En fl S e k => by
  obtain ⟨d, e1, f1⟩ := Option.bind_eq_some_iff.mp (show (ma δ).bind _ = some fl from e)
  obtain ⟨d2, e2, f2⟩ := Option.bind_eq_some_iff.mp f1
  split at f2
  · rename_i hd
    cases f2
    obtain ⟨q1, q2⟩ := (Bool.and_eq_true _ _).mp hd
    refine ha δ σ F H _ d S e1 fun a o F1 H1 x1 hn ha hf r => ?_
    refine hb δ σ F1 H1 _ d2 (S.up x1) e2 fun a2 o2 F2 H2 x2 hn2 ha2 hf2 r2 => ?_
    exact ⟨_, _, rfl, k _ F2 H2 ((S.setOwn x1 hn ha hf r q1).setOwn x2 hn2 ha2 hf2 r2 q2) (x1.f.trans x2.f)⟩
  · cases f2
end
end DL

namespace DL
open PySem PySem.Spec L2
theorem body_end {t : TS} {m : M Fl} {N : List Str} {n : Nat} {K : PySem.W.Frag} {vs : List V} {H : Hp} {Q : VK} {E : XK} (h : spD K n (runD N.length m) vs H Q E) (sx : ∀ F0 H0, Sx ⟨K, F0, H0⟩ t m) :
    t { nx := fun _ H' => Q .non H', rt := Q } (L2.start N vs) H := by
  obtain ⟨F, ds, d, s, rl, hl, e, k⟩ := h
  unfold runD at e
  cases q : m (initD N.length ds) with
  | none => rw [q] at e; cases e
  | some fl =>
    rw [q] at e
    refine sx F H (initD N.length ds) _ F H _ fl (sr_start s rl) q ?_
    cases fl with
    | nx δ =>
      cases e
      exact fun σ F' H' S _ => k _ F' H' S.ext .non
    | rt d' =>
      cases e
      exact fun v F' H' x r => k v F' H' x r
    | bk _ => cases e
    | ct _ => cases e
/-- a statement that is never reached -/
theorem ps_no {X : Cx} {st : Stmt} : PS X st (fun _ _ _ => False) := ⟨fun _ _ _ _ _ _ h => h.elim⟩
end DL

/-! readings by name -/
namespace DL
open PySem PySem.Spec L2
def rLenQ (K : PySem.W.Frag) : List V → Hp → VK → Prop := fun xs H Q => ∃ p ys, xs = [.ref p] ∧ (SqL K H p ys ∨ SqT K H p ys) ∧ Q (.int ys.length) H
def rTupQ (K : PySem.W.Frag) : List V → Hp → VK → Prop := fun xs H Q => ∃ p ys, xs = [.ref p] ∧ ((SqL K H p ys ∧ ∀ l, H l = none → Q (.ref l) (upd H l (.tup ys))) ∨ (SqT K H p ys ∧ Q (.ref p) H))
def rTupF (K : PySem.W.Frag) : List V → Hp → VK → Prop := fun xs H Q => ∃ p ys, xs = [.ref p] ∧ SqL K H p ys ∧ ∀ l o, H l = none → o.cls = .type "tuple" → o.dict = none → Q (.ref l) (upd H l (.frz o (.tup ys)))
def rLstQ (K : PySem.W.Frag) : List V → Hp → VK → Prop := fun xs H Q => ∃ p ys, xs = [.ref p] ∧ (SqL K H p ys ∨ SqT K H p ys) ∧ ∀ l, H l = none → Q (.ref l) (upd H l (.lst ys))
def rSortKI : List V → Hp → VK → Prop := fun xs H Q => ∃ (a : Addr) (kvs : List (Key × V)) (ks : List Int), xs = [.ref a] ∧ Rd H a (.dK kvs) ∧ kvs.map (·.1) = ks.map Sum.inl ∧ ks.length < 64 ∧ ∀ (ys : List Int) (p : Addr), ys.Perm ks → ys.Pairwise (· ≤ ·) → H p = none → Q (.ref p) (upd H p (.lst (ys.map V.int)))
def rSortKS : List V → Hp → VK → Prop := fun xs H Q => ∃ (a : Addr) (kvs : List (Key × V)) (ks : List Str), xs = [.ref a] ∧ Rd H a (.dK kvs) ∧ kvs.map (·.1) = ks.map Sum.inr ∧ ks.length < 64 ∧ ∀ (ys : List Str) (p : Addr), ys.Perm ks → PyProof.Rows.sortedS ys = true → H p = none → Q (.ref p) (upd H p (.lst (ys.map V.str)))
def rDictK (K : PySem.W.Frag) : List V → Hp → VK → Prop := fun xs H Q => ∃ (a : Addr) (ps : List Addr) (kvs : List (Key × V)), xs = [.ref a] ∧ SqL K H a (ps.map V.ref) ∧ Paired (fun p kv => SqT K H p [kV kv.1, kv.2]) ps kvs ∧ ∀ p, H p = none → Q (.ref p) (upd H p (.dK (mergeK [] kvs)))
def rStrI : List V → Hp → VK → Prop := fun xs H Q => ∃ i, xs = [V.int i] ∧ i.natAbs.log2 < 1920 ∧ Q (V.str (Str.ofString (toString i))) H
def rIntS : List V → Hp → VK → Prop := fun xs H Q => ∃ a n, xs = [V.str a] ∧ intText? a = some n ∧ a.length ≤ 640 ∧ Q (V.int n) H
def rInt1 : List V → Hp → VK → Prop := fun xs H Q => (∃ i, xs = [V.int i] ∧ Q (V.int i) H) ∨ ∃ k, xs = [V.bl k] ∧ Q (V.int (if k then 1 else 0)) H
def rCatS : R2 := fun x y H Q => ∃ i j, x = V.str i ∧ y = V.str j ∧ i.length + j.length ≤ sizeLine ∧ Q (V.str (i ++ j)) H
section
variable {X : Cx}
theorem hLenQ : CallR X (.builtin "len") (rLenQ X.K) := call_len_seq
theorem hLenT : CallR X (.builtin "len") rLenT := call_len_dT
theorem hTupQ : CallR X (.type "tuple") (rTupQ X.K) := call_tuple_of
theorem hTupF : CallR X (.type "tuple") (rTupF X.K) := call_tupleF
theorem hLstQ : CallR X (.type "list") (rLstQ X.K) := call_list_of
theorem hSortKI (hc : X.calm = true) : CallR X (.builtin "sorted") rSortKI := call_sortedDI hc
theorem hSortKS (hc : X.calm = true) : CallR X (.builtin "sorted") rSortKS := call_sortedD hc
theorem hDictK (hc : X.calm = true) : CallR X (.type "dict") (rDictK X.K) := call_dictP hc
theorem hStrI : CallR X (.type "str") rStrI := call_str_int
theorem hIntS : CallR X (.type "int") rIntS := call_int_str
theorem hInt1 : CallR X (.type "int") rInt1 := call_int1
theorem hCatS : OpR X (binaryOp .Add) rCatS := op_add_str
end
section
variable {c : Cc}
theorem bLenQ : CB c (rLenQ c.K) (f1 fLen) := cb_len
theorem bTupQ : CB c (rTupQ c.K) (f1 fun d => (lstD d).map D.tup) := cb_tuple
theorem bTupF : CB c (rTupF c.K) (f1 fun d => (lstD d).map D.ftup) := cb_tupleF
theorem bLstQ : CO c (rLstQ c.K) (f1 fun d => (seqD d).map D.lst) := co_list
theorem bSortKI : CO c rSortKI (f1 fSortedKI) := co_sortedKI
theorem bSortKS : CO c rSortKS (f1 fSortedKS) := co_sortedKS
theorem bDictK : CO c (rDictK c.K) (f1 fDictK) := co_dictK
theorem bStrI : CB c rStrI (f1 fStr) := cb_strI
theorem bIntS : CB c rIntS (f1 fInt) := cb_intS
theorem bInt1 : CB c rInt1 (f1 fInt1) := cb_int1
theorem bCatS : OpB c rCatS fCatS := op_catS
end
theorem hu65 {k : Nat} {A : Around} (h : Room k A) : A.units + 65 < cLine := by
  have := h.un
  omega
theorem hu64 {k : Nat} {A : Around} (h : Room k A) : A.units + 64 < cLine := Nat.lt_of_succ_lt (hu65 h)
theorem hu1 {k : Nat} {A : Around} (h : Room k A) : A.units + 1 < cLine := Nat.lt_of_le_of_lt (by omega) (hu65 h)
theorem hu0 {k : Nat} {A : Around} (h : Room k A) : A.units < cLine := Nat.lt_of_le_of_lt (by omega) (hu65 h)
end DL

namespace DL
open PySem PySem.Spec L2
/-- a def that the top has written and that keeps a promise -/
structure Own (P : Program) (w : World) (K : PySem.W.Frag) (mg : Str → Option Value) (base : Heap) (lvl : Nat) (x : Str) (n : Nat) (r : List D → Option D) where
  f : Addr
  fd : FuncData
  ps : List Str
  F : FnOk P w K mg base CX0 lvl f fd ps (spD K n r)
  g : mg x = some (.ref f)
  k : PySem.W.keepIn K (.ref f) = true
  b : Binds K fd ps []
/-- a property of a class -/
structure OwnProp (P : Program) (w : World) (K : PySem.W.Frag) (mg : Str → Option Value) (base : Heap) (lvl : Nat) (C : Addr) (x : Str) (r : List D → Option D) where
  p : Addr
  f : Addr
  fd : FuncData
  ps : List Str
  F : FnOk P w K mg base CX0 lvl f fd ps (spD K 1 r)
  h : PropOf K C x p f
  c : Cls K C
  b : Binds K fd ps []
def mProp (C : Addr) (r : List D → Option D) (ma : M D) : M D := fun δ => (ma δ).bind fun d => match d with
    | .ins C' ns vs => if C' = C then r [.ins C' ns vs] else none
    | _ => none
/-- a tuple of ints that the top has written -/
def KTup (K : PySem.W.Frag) (a : Addr) (is : List Int) : Prop := ∀ H, SqT K H a (is.map V.int)
def ktupD (is : List Int) : D := .ktup (is.map D.int)
theorem ktup_rp {c : Cc} {a : Addr} {is : List Int} (h : KTup c.K a is) : ∀ F, Rp c.K F (.ref a) (ktupD is) := fun F => .tupK h (rpl_ints is)
end DL
namespace DL
open PySem PySem.Spec L2
section
variable {c : Cc} {ta : TE} {ma : M D}
def fNeg (d : D) : Option D := match d with
  | .int i => some (.int (-i))
  | _ => none
theorem ex_neg (ha : Ex c ta ma) : Ex c (tUn (rU fun i => .int (-i)) ta) (mF fNeg ma) := fun δ σ F H Q z S e k => by
  obtain ⟨d, e1, e2⟩ := Option.bind_eq_some_iff.mp (show (ma δ).bind fNeg = some z from e)
  unfold fNeg at e2
  split at e2
  · cases e2
    refine ha δ σ F H _ _ S e1 fun x F1 H1 x1 r1 => ?_
    obtain rfl := rp_int r1
    exact ⟨_, rfl, k _ F1 H1 x1 (.int _)⟩
  · cases e2
end
end DL
namespace DL
open PySem PySem.Spec L2
section
variable {c : Cc}
/-- (i, j) as a comprehension's target -/
theorem gw_tup2 (i j : Nat) (hij : i ≠ j := by decide) : Gw c (gTup c.K 2 (gCons (gName i) (gCons (gName j) gNil))) (stTup 2 (stCons (stN i) (stCons (stN j) stNil))) [i, j] := fun δ δ' σ F H Q v d S r e k => by
  obtain ⟨ds, e1, e2⟩ := Option.bind_eq_some_iff.mp (show (tupD d).bind _ = some δ' from e)
  split at e2
  · rename_i hl
    match ds, hl with
    | [d1, d2], _ =>
      obtain ⟨a, xs, rfl, h1, rl⟩ := tupD_ok r e1
      cases rl with
      | cons r1 rl =>
        cases rl with
        | cons r2 rl =>
          cases rl
          have e2 : some ((δ.set i (SV.fro d1)).set j (SV.fro d2)) = some δ' := e2
          cases e2
          refine ⟨a, _, rfl, same_seqT S.sFH h1, rfl, _, _, rfl, _, _, rfl, rfl, ?_⟩
          refine k _ ((S.set r1).set r2) ?_
          show (((((σ.set j none).set i none).set i (some _)).set j (some _)).set j none).set i none = (σ.set j none).set i none
          refine List.ext_getElem? fun n => ?_
          by_cases h1 : i = n <;> by_cases h2 : j = n <;> simp [List.getElem?_set, h1, h2]
  · cases e2
end
end DL
namespace DL
open PySem PySem.Spec L2
section
variable {c : Cc}
/-- tuple(t), t a tuple: t itself -/
def fTupT (d : D) : Option D := match d with
  | .tup _ => some d
  | .ktup _ => some d
  | _ => none
theorem bTupT : CB c (rTupQ c.K) (f1 fTupT) := fun F H vs ds z Q s r h k => by
  obtain ⟨d, rfl, h0⟩ := f1_some h
  clear h
  obtain ⟨v, rfl, r1⟩ := rbl1 r
  unfold fTupT at h0
  split at h0
  · cases h0
    rcases r1 with r1 | ⟨a, o, rfl, e, r1⟩
    · obtain ⟨a, xs, rfl, e, rl⟩ := rp_tup r1
      exact ⟨a, xs, rfl, .inr ⟨SqT.of (s _ _ e), k _ F H (Ext.refl s) r1⟩⟩
    · cases r1 with
      | tup rl =>
        obtain ⟨F', x, e'⟩ := Ext.tup s e
        exact ⟨a, _, rfl, .inr ⟨SqT.of e, k _ F' H x (.obj e' (.tup (rl.mono x.f)))⟩⟩
  · cases h0
    rcases r1 with r1 | ⟨a, o, rfl, e, r1⟩
    · obtain ⟨a, xs, rfl, e, rl⟩ := rp_ktup r1
      exact ⟨a, xs, rfl, .inr ⟨same_seqT s e, k _ F H (Ext.refl s) r1⟩⟩
    · cases r1
  · cases h0
end
end DL
namespace DL
open PySem PySem.Spec L2
section
variable {c : Cc} {ta tb : TE} {ma mb : M D}
/-- a, b = (e1, e2), the first a new thing that is changed later -/
def mOwnX (i j : Nat) (ma mb : M D) : M Fl := fun δ => (ma δ).bind fun d => (mb δ).bind fun e => if isOwnD d then some (.nx ((δ.set i (SV.own d)).set j (SV.fro e))) else none
theorem sx_ownX (i j : Nat) (ha : Ox c ta ma) (hb : Ex c tb mb) : Sx c (tPar i j (tCons ta (tCons tb tNil))) (mOwnX i j ma mb) := fun δ σ F H En fl S e k => by
  obtain ⟨d, e1, f1⟩ := Option.bind_eq_some_iff.mp (show (ma δ).bind _ = some fl from e)
  obtain ⟨d2, e2, f2⟩ := Option.bind_eq_some_iff.mp f1
  split at f2
  · rename_i hd
    cases f2
    refine ha δ σ F H _ d S e1 fun a o F1 H1 x1 hn ha hf r => ?_
    refine hb δ σ F1 H1 _ d2 (S.up x1) e2 fun v F2 H2 x2 r2 => ?_
    exact ⟨_, _, rfl, k _ F2 H2 (((S.setOwn x1 hn ha hf r hd).up x2).set r2) (x1.f.trans x2.f)⟩
  · cases f2
end
end DL

/-! instances that are made: self is an own thing in a slot whose address stays -/
namespace DL
open PySem PySem.Spec L2
def hideH (p : Addr) (H : Hp) : Hp := fun b => if b = p then none else H b
theorem hide_ne {p b : Addr} {H : Hp} {o : HO} (h : hideH p H b = some o) : b ≠ p ∧ H b = some o := by
  unfold hideH at h
  split at h
  · cases h
  · rename_i hb; exact ⟨hb, h⟩
theorem hide_of {p b : Addr} {H : Hp} {o : HO} (hb : b ≠ p) (h : H b = some o) : hideH p H b = some o := by
  unfold hideH; rw [if_neg hb]; exact h
theorem hide_same {p : Addr} {H : Hp} : hideH p H p = none := by unfold hideH; rw [if_pos rfl]
/-- a method that settles a new instance: one more argument; the instance has no fields before -/
def spSelf (K : PySem.W.Frag) (C : Addr) (r : D → Option D) : Sp := fun vs H Q _ => ∃ (F : Hp) (p dx : Addr) (v : V) (d z : D), Same F H ∧ F p = none ∧ H p = some (.ins C dx []) ∧ vs = [.ref p, v] ∧ Rp K F v d ∧ r d = some z ∧
  ∀ F' H' o, Ext F (hideH p H) F' H' → F' p = none → H' p = some o → RpO K F' o z → Q .non H'
theorem spSelf_len {K : PySem.W.Frag} {C : Addr} {r : D → Option D} {vs : List V} {H : Hp} {Q : VK} {E : XK} (h : spSelf K C r vs H Q E) : vs.length = 2 := by
  obtain ⟨F, p, dx, v, d, z, _, _, _, rfl, _⟩ := h
  rfl
def initS (n : Nat) (C : Addr) (d : D) : DS := SV.own (.ins C [] []) :: SV.fro d :: List.replicate (n - 2) SV.unk
theorem unk_get {n i : Nat} {s : SV} (h : (List.replicate n SV.unk)[i]? = some s) : s = SV.unk := by
  have := List.mem_of_getElem? h
  exact (List.mem_replicate.mp this).2
theorem sr_self {K : PySem.W.Frag} {F H : Hp} {N : List Str} {p dx C : Addr} {v : V} {d : D} (s : Same F H) (hF : F p = none) (hp : H p = some (.ins C dx [])) (r : Rp K F v d) : SR K F (hideH p H) F H (L2.start N [.ref p, v]) (initS N.length C d) where
  ext := ⟨fun _ _ e => e, fun b o e => (hide_ne e).2, s, fun _ _ e _ _ => e⟩
  len := by
    unfold L2.start initS
    simp only [List.map_cons, List.map_nil, List.length_append, List.length_cons, List.length_nil, List.length_replicate]
    omega
  fro := fun i e h => by
    match i, h with
    | 0, h => simp [initS] at h
    | 1, h =>
      simp [initS] at h; subst h
      exact ⟨v, by unfold L2.start; simp, r⟩
    | i + 2, h => simp [initS] at h; cases unk_get h
  own := fun i e h => by
    match i, h with
    | 0, h =>
      simp [initS] at h; subst h
      exact ⟨p, _, by unfold L2.start; simp, hp, hF, hide_same, .ins rfl .nil⟩
    | 1, h => simp [initS] at h
    | i + 2, h => simp [initS] at h; cases unk_get h
  nt := fun i e h => by
    match i, h with
    | 0, h => simp [initS] at h; subst h; rfl
    | 1, h => simp [initS] at h
    | i + 2, h => simp [initS] at h; cases unk_get h
  dis := fun i j a e e' h1 h2 _ _ => by
    match i, j, h1, h2 with
    | 0, 0, _, _ => rfl
    | 0, 1, _, h => simp [initS] at h
    | 0, j + 2, _, h => simp [initS] at h; cases unk_get h
    | 1, _, h, _ => simp [initS] at h
    | i + 2, _, h, _ => simp [initS] at h; cases unk_get h
/-- statements that keep slot i at p -/
def FlP (c : Cc) (F : Hp) (En : Ends) (i : Nat) (p : Addr) : Fl → Prop
  | .nx δ => ∀ σ' F' H', SR c.K c.F0 c.H0 F' H' σ' δ → Same F F' → σ'[i]? = some (some (.ref p)) → En.nx σ' H'
  | _ => False
def SxP (c : Cc) (i : Nat) (t : TS) (m : M Fl) : Prop := ∀ (p : Addr) (δ : DS) (σ : St) (F H : Hp) (En : Ends) (fl : Fl), SR c.K c.F0 c.H0 F H σ δ → σ[i]? = some (some (.ref p)) → m δ = some fl → FlP c F En i p fl → t En σ H
section
variable {c : Cc} {ta tb : TE} {ma mb : M D} {i : Nat}
theorem sp_next : SxP c i tNext mNext := fun p δ σ F H En fl S hp e k => by
  cases e
  exact k σ F H S (Same.refl F) hp
theorem sp_seq {t u : TS} {m n : M Fl} (h1 : SxP c i t m) (h2 : SxP c i u n) : SxP c i (tSeq t u) (mSeq m n) := fun p δ σ F H En fl S hp e k => by
  unfold mSeq at e
  refine h1 p δ σ F H _ ((m δ).getD (.rt .non)) S hp ?_ ?_
  · cases q : m δ with
    | none => rw [q] at e; cases e
    | some f => rfl
  · cases q : m δ with
    | none => rw [q] at e; cases e
    | some f =>
      rw [q] at e
      cases f with
      | nx δ1 =>
        exact fun σ' F' H' S' s' hp' => h2 p δ1 σ' F' H' En fl S' hp' e (by
          cases fl with
          | nx δ2 => exact fun σ2 F2 H2 S2 s2 hp2 => k σ2 F2 H2 S2 (s'.trans s2) hp2
          | _ => exact k)
      | rt d =>
        have e : some (Fl.rt d) = some fl := e
        cases e; exact k
      | bk d =>
        have e : some (Fl.bk d) = some fl := e
        cases e; exact k
      | ct d =>
        have e : some (Fl.ct d) = some fl := e
        cases e; exact k
theorem sp_own (j : Nat) (hj : j ≠ i := by decide) (h : Ox c ta ma) : SxP c i (tAsg ta (gName j)) (mOwn j ma) := fun p δ σ F H En fl S hp e k => by
  obtain ⟨d, e1, e2⟩ := Option.bind_eq_some_iff.mp (show (ma δ).bind (fun d => if isOwnD d then some (Fl.nx (δ.set j (SV.own d))) else none) = some fl from e)
  split at e2
  · rename_i hd
    cases e2
    refine h δ σ F H _ d S e1 fun a o F' H' x hn ha hf r => ?_
    exact k _ F' H' (S.setOwn x hn ha hf r hd) x.f (by rw [List.getElem?_set_ne hj]; exact hp)
  · cases e2
/-- fields -/
def fput (f : Str) (y : D) : List Str → List D → List Str × List D
  | g :: ns, v :: vs => if g = f then (f :: ns, y :: vs) else (g :: (fput f y ns vs).1, v :: (fput f y ns vs).2)
  | _, _ => ([f], [y])
theorem fput_ok {K : PySem.W.Frag} {F : Hp} {f : Str} {w : V} {y : D} (r : Rp K F w y) : ∀ {fs : List (Str × V)} {vs : List D}, RpL K F (fs.map (·.2)) vs → (putF f w fs).map (·.1) = (fput f y (fs.map (·.1)) vs).1 ∧ RpL K F ((putF f w fs).map (·.2)) (fput f y (fs.map (·.1)) vs).2
  | [], vs, rl => by cases rl; exact ⟨rfl, .cons r .nil⟩
  | (g, x) :: fs, vs, rl => by
    cases rl with
    | cons r1 r2 =>
      obtain ⟨z1, z2⟩ := fput_ok r r2
      have e : putF f w ((g, x) :: fs) = if g = f then (f, w) :: fs else (g, x) :: putF f w fs := by
        by_cases h : g = f
        · subst h; rw [if_pos rfl]; exact if_pos rfl
        · rw [if_neg h]; exact if_neg h
      rw [e]
      simp only [List.map_cons, fput]
      by_cases h : g = f
      · simp only [h, if_true]; exact ⟨rfl, .cons r r2⟩
      · simp only [h, if_false]; exact ⟨by rw [List.map_cons, z1], .cons r1 z2⟩
def mSetF (i : Nat) (C : Addr) (f : Str) (m : M D) : M Fl := fun δ => (m δ).bind fun y => (ownAt i δ).bind fun d => match d with
  | .ins C' ns vs => if C' = C ∧ ns.length < 1000 then some (.nx (δ.set i (SV.own (.ins C (fput f y ns vs).1 (fput f y ns vs).2)))) else none
  | _ => none
theorem sp_fld {C : Addr} {f : Str} {tv : TE} {mv : M D} (cl : Cls c.K C) (na : NoAttr c.K C f) (h : Ex c tv mv) : SxP c i (sFld c.K (tVar i) tv f) (mSetF i C f mv) := fun p δ σ F H En fl S hp e k => by
  obtain ⟨y, e1, f1⟩ := Option.bind_eq_some_iff.mp e
  obtain ⟨d, e2, f2⟩ := Option.bind_eq_some_iff.mp f1
  split at f2
  · rename_i C' ns vs
    split at f2
    · rename_i hc
      obtain ⟨rfl, hl⟩ := hc
      cases f2
      have q := ownAt_ok e2
      refine h δ σ F H _ y S e1 fun w F1 H1 x1 r1 => ?_
      have S1 := S.up x1
      obtain ⟨a, o, h1, h2, h3, h4, h5⟩ := S1.own i _ q
      rw [hp] at h1; cases h1
      cases h5 with
      | @ins _ dx fs _ _ hn rl =>
        subst hn
        obtain ⟨z1, z2⟩ := fput_ok r1 rl
        refine ⟨.ref p, hp, p, C', dx, fs, rfl, h2, cl, na, by rw [← List.length_map (f := (·.1))]; exact hl, ?_⟩
        exact k σ F1 _ (S1.change q hp (.ins z1 z2) rfl) x1.f hp
    · cases f2
  · cases f2
def runS (n : Nat) (C : Addr) (m : M Fl) (d : D) : Option D := match m (initS n C d) with
  | some (.nx δ) => ownAt 0 δ
  | _ => none
theorem self_end {t : TS} {m : M Fl} {N : List Str} {K : PySem.W.Frag} {C : Addr} {vs : List V} {H : Hp} {Q : VK} {E : XK} (h : spSelf K C (runS N.length C m) vs H Q E) (sx : ∀ F0 H0, SxP ⟨K, F0, H0⟩ 0 t m) :
    t { nx := fun _ H' => Q .non H', rt := Q } (L2.start N vs) H := by
  obtain ⟨F, p, dx, v, d, z, s, hF, hp, rfl, r, e, k⟩ := h
  unfold runS at e
  split at e
  · rename_i δ q
    refine sx F (hideH p H) p (initS N.length C d) _ F H _ _ (sr_self s hF hp r) (by unfold L2.start; simp) q ?_
    intro σ' F' H' S' s' hp'
    obtain ⟨a, o, h1, h2, h3, h4, h5⟩ := S'.own 0 z (ownAt_ok e)
    rw [hp'] at h1; cases h1
    exact k F' H' o S'.ext h3 h2 h5
  · cases e
/-- C(e) -/
theorem ox_make {C : Addr} {r : D → Option D} (ha : Ex c ta ma) : Ox c (tMake C (spSelf c.K C r) [] E0 (tCons ta tNil)) (mF r ma) := fun δ σ F H Q z S e k => by
  obtain ⟨d, e1, e2⟩ := Option.bind_eq_some_iff.mp (show (ma δ).bind r = some z from e)
  refine ha δ σ F H _ d S e1 fun v F1 H1 x1 r1 => fun x dx hx hdx hne => ?_
  have hF : F1 x = none := none_of x1.s hx
  have hFd : F1 dx = none := none_of x1.s hdx
  refine ⟨F1, x, dx, v, d, z, fun b u q => ?_, hF, upd_same, rfl, r1, e2, fun F' H' o x2 h1 h2 h3 => ⟨rfl, ?_⟩⟩
  · rw [upd_ne (fun w => by subst w; rw [hF] at q; cases q), upd_ne (fun w => by subst w; rw [hFd] at q; cases q)]
    exact x1.s b u q
  · have old : ∀ b u, H1 b = some u → hideH x (upd (upd H1 dx (.own x)) x (.ins C dx [])) b = some u := fun b u q => by
      have hb : b ≠ x := ne_of_none q hx
      have hb2 : b ≠ dx := ne_of_none q hdx
      refine hide_of hb ?_
      rw [upd_ne hb, upd_ne hb2]; exact q
    have x3 : Ext F1 H1 F' H' := ⟨x2.f, fun b u q => x2.h b u (old b u q), x2.s, fun b u q1 q2 q3 => x2.n b u q1 (old b u q2) q3⟩
    exact k x o F' H' (x1.trans x3) (ext_none x1 hx).2 h2 h1 h3
/-- an own thing is changed by someone else -/
theorem SR.swap {K : PySem.W.Frag} {F0 H0 F H F' H' : Hp} {σ : St} {δ : DS} (S : SR K F0 H0 F H σ δ) {i : Nat} {p : Addr} {d z : D} {o' : HO} (hi : δ[i]? = some (SV.own d)) (hp : σ[i]? = some (some (V.ref p))) (x : Ext F (hideH p H) F' H') (hF : F' p = none) (ho : H' p = some o') (r : RpO K F' o' z) (hz : isOwnD z = true) :
    SR K F0 H0 F' H' σ (δ.set i (SV.own z)) := by
  obtain ⟨a, o, h1, h2, h3, h4, h5⟩ := S.own i d hi
  rw [hp] at h1; cases h1
  have np : ∀ b u, H0 b = some u → b ≠ p := fun b u e w => by subst w; rw [h4] at e; cases e
  refine ⟨⟨fun b u e => x.f b u (S.ext.f b u e), fun b u e => x.h b u (hide_of (np b u e) (S.ext.h b u e)), x.s, fun b u e1 e2 e3 => x.n b u (S.ext.n b u e1 e2 e3) (hide_of (np b u e2) (S.ext.h b u e2)) e3⟩, by rw [List.length_set]; exact S.len, fun j e h => ?_, fun j e h => ?_, fun j e h => ?_, fun j k b d1 e q1 q2 g1 g2 => ?_⟩
  · rcases set_get h with ⟨rfl, q⟩ | ⟨ne, q⟩
    · cases q
    · obtain ⟨v, z1, z2⟩ := S.fro j e q
      exact ⟨v, z1, z2.mono x.f⟩
  · rcases set_get h with ⟨rfl, q⟩ | ⟨ne, q⟩
    · cases q
      exact ⟨p, o', hp, ho, hF, h4, r⟩
    · obtain ⟨b, u, z1, z2, z3, z4, z5⟩ := S.own j e q
      have hb : b ≠ p := fun w => ne (by subst w; exact S.dis i j b d e hi q hp z1)
      exact ⟨b, u, z1, x.h b u (hide_of hb z2), x.n b u z3 (hide_of hb z2) (tupO_own z5 (S.nt j e q)), z4, z5.mono x.f⟩
  · rcases set_get h with ⟨rfl, q⟩ | ⟨ne, q⟩
    · cases q; exact hz
    · exact S.nt j e q
  · have o1 : ∃ d1', δ[j]? = some (SV.own d1') := by
      rcases set_get q1 with ⟨rfl, q⟩ | ⟨_, q⟩
      · exact ⟨_, hi⟩
      · exact ⟨_, q⟩
    have o2 : ∃ d1', δ[k]? = some (SV.own d1') := by
      rcases set_get q2 with ⟨rfl, q⟩ | ⟨_, q⟩
      · exact ⟨_, hi⟩
      · exact ⟨_, q⟩
    obtain ⟨_, o1⟩ := o1
    obtain ⟨_, o2⟩ := o2
    exact S.dis j k b _ _ o1 o2 g1 g2
/-- self.m(e) within __init__, m settles -/
theorem sp_meth {C : Addr} {m : Str} {r : D → Option D} (ha : Ex c ta ma) : SxP c i (tDrop (tMeth C m (spSelf c.K C r) [] E0 (tVar i) (tCons ta tNil))) (fun δ => (ownAt i δ).bind fun d => match d with
    | .ins C' [] [] => if C' = C then (ma δ).bind fun x => (r x).bind fun z => if isOwnD z then some (.nx (δ.set i (SV.own z))) else none else none
    | _ => none) := fun p δ σ F H En fl S hp e k => by
  obtain ⟨d, e1, f1⟩ := Option.bind_eq_some_iff.mp e
  split at f1
  · split at f1
    · rename_i hc; subst hc
      obtain ⟨x, e2, f2⟩ := Option.bind_eq_some_iff.mp f1
      obtain ⟨z, e3, f3⟩ := Option.bind_eq_some_iff.mp f2
      split at f3
      · rename_i hz
        cases f3
        have q := ownAt_ok e1
        obtain ⟨a0, o0, g1, g2, g3, g4, g5⟩ := S.own i _ q
        rw [hp] at g1; cases g1
        cases g5 with
        | @ins _ dx0 fs0 _ _ hn0 rl0 =>
          have hfs : fs0 = [] := by simpa using hn0
          subst hfs
          refine ⟨.ref p, hp, p, dx0, [], rfl, g2, rfl, ?_⟩
          refine ha δ σ F H _ x S e2 fun v F1 H1 x1 r1 => ?_
          have S1 := S.up x1
          obtain ⟨a, o, h1, h2, h3, h4, h5⟩ := S1.own i _ q
          rw [hp] at h1; cases h1
          cases h5 with
          | @ins _ dx fs _ _ hn rl =>
            have hfs : fs = [] := by simpa using hn
            subst hfs
            refine ⟨F1, p, dx, v, x, z, x1.s, h3, h2, rfl, r1, e3, fun F' H' o x2 y1 y2 y3 => ?_⟩
            exact k σ F' H' (S1.swap q hp x2 y1 y2 y3 hz) (x1.f.trans x2.f) hp
      · cases f3
    · cases f1
  · cases f1
theorem sp_if {t : TT} {m : M Bool} {u w : TS} {a b : M Fl} (h1 : Tx c t m) (ha : SxP c i u a) (hb : SxP c i w b) : SxP c i (tIfS t u w) (mIf m a b) := fun p δ σ F H En fl S hp e k => by
  obtain ⟨q, e1, e2⟩ := Option.bind_eq_some_iff.mp (show (m δ).bind (fun k => if k then a δ else b δ) = some fl from e)
  refine h1 δ σ F H _ q S e1 fun F1 H1 x1 => ?_
  have up : FlP c F1 En i p fl := by
    cases fl with
    | nx δ2 => exact fun σ2 F2 H2 S2 s2 hp2 => k σ2 F2 H2 S2 (x1.f.trans s2) hp2
    | _ => exact k
  cases q with
  | true => exact iteT (ha p δ σ F1 H1 En fl (S.up x1) hp e2 up)
  | false => exact iteF (hb p δ σ F1 H1 En fl (S.up x1) hp e2 up)
theorem sp_stop {t : TS} : SxP c i t mStop := fun p δ σ F H En fl S hp e k => by cases e
def mMethS (i : Nat) (C : Addr) (r : D → Option D) (ma : M D) : M Fl := fun δ => (ownAt i δ).bind fun d => match d with
    | .ins C' [] [] => if C' = C then (ma δ).bind fun x => (r x).bind fun z => if isOwnD z then some (.nx (δ.set i (SV.own z))) else none else none
    | _ => none
structure OwnSelf (P : Program) (w : World) (K : PySem.W.Frag) (mg : Str → Option Value) (base : Heap) (lvl : Nat) (C : Addr) (x : Str) (r : D → Option D) where
  f : Addr
  fd : FuncData
  ps : List Str
  F : FnOk P w K mg base CX0 lvl f fd ps (spSelf K C r)
  m : Meth K C x f
  c : Cls K C
  b : Binds K fd ps []
structure OwnInit (P : Program) (w : World) (K : PySem.W.Frag) (mg : Str → Option Value) (base : Heap) (lvl : Nat) (C : Addr) (x : Str) (r : D → Option D) where
  f : Addr
  fd : FuncData
  ps : List Str
  F : FnOk P w K mg base CX0 lvl f fd ps (spSelf K C r)
  M : Mk K C f
  g : mg x = some (.ref C)
  b : Binds K fd ps []
end
end DL

/-! comprehensions with two fors -/
namespace DL
open PySem PySem.Spec L2
section
variable {c : Cc}
/-- a thing that no slot owns is changed -/
theorem SR.poke {K : PySem.W.Frag} {F0 H0 F H : Hp} {σ : St} {δ : DS} (S : SR K F0 H0 F H σ δ) {A : Addr} {o' : HO} (h0 : H0 A = none) (hF : F A = none) (ho : ∀ (i : Nat) (d : D), δ[i]? = some (SV.own d) → σ[i]? ≠ some (some (V.ref A))) : SR K F0 H0 F (upd H A o') σ δ where
  ext := ⟨S.ext.f, fun b u e => by rw [upd_ne (ne_of_none e h0)]; exact S.ext.h b u e, fun b u e => by rw [upd_ne (ne_of_none e hF)]; exact S.ext.s b u e, S.ext.n⟩
  len := S.len
  fro := S.fro
  own := fun i d e => by
    obtain ⟨a, o, h1, h2, h3⟩ := S.own i d e
    refine ⟨a, o, h1, ?_, h3⟩
    rw [upd_ne (fun z => by subst z; exact ho i d e h1)]; exact h2
  nt := S.nt
  dis := S.dis
def keepsOwn (st : DS → D → Option DS) : Prop := ∀ δ d δ', st δ d = some δ' → ∀ (i : Nat) e, δ'[i]? = some (SV.own e) → δ[i]? = some (SV.own e)
theorem keeps_stN (i : Nat) : keepsOwn (stN i) := fun δ d δ' e j x h => by
  cases e
  rcases set_get h with ⟨rfl, q⟩ | ⟨_, q⟩
  · cases q
  · exact q
theorem wipeD_own : ∀ {vs : List Nat} {δ : DS} {i : Nat} {d : D}, (wipeD δ vs)[i]? = some (SV.own d) → δ[i]? = some (SV.own d) ∧ i ∉ vs
  | [], _, _, _, h => ⟨h, by simp⟩
  | v :: vs, δ, i, d, h => by
    rcases set_get (show ((wipeD δ vs).set v SV.unk)[i]? = _ from h) with ⟨rfl, q⟩ | ⟨n, q⟩
    · cases q
    · obtain ⟨h1, h2⟩ := wipeD_own q
      exact ⟨h1, by simp only [List.mem_cons, not_or]; exact ⟨Ne.symm n, h2⟩⟩
/-- .. the slots that own do not own A -/
def NoA (A : Addr) (σ : St) (δ : DS) : Prop := ∀ (i : Nat) (d : D), δ[i]? = some (SV.own d) → σ[i]? ≠ some (some (V.ref A))
theorem NoA.of {K : PySem.W.Frag} {F0 H0 F H : Hp} {σ : St} {δ : DS} (S : SR K F0 H0 F H σ δ) {A : Addr} (h : H A = none) : NoA A σ δ := fun i d e q => by
  obtain ⟨a, o, h1, h2, _⟩ := S.own i d e
  rw [q] at h1; cases h1
  rw [h] at h2; cases h2
theorem NoA.step {A : Addr} {σ σ' : St} {δ δ' : DS} {vs : List Nat} {st : DS → D → Option DS} {d : D} (h : NoA A σ δ) (hs : keepsOwn st) (e : st (wipeD δ vs) d = some δ') (hw : L2.wipe σ' vs = L2.wipe σ vs) : NoA A σ' δ' := fun i x q z => by
  have q1 := hs _ _ _ e i x q
  obtain ⟨q2, q3⟩ := wipeD_own q1
  refine h i x q2 ?_
  rw [← L2.wipe_out (vs := vs) q3, ← hw, L2.wipe_out q3]; exact z
def loopC2 (st : DS → D → Option DS) (t : M Bool) (vs1 : List Nat) (w1 : M (List D)) (st1 : DS → D → Option DS) (t1 : M Bool) (m : M D) (δ : DS) : List D → Option (List D)
  | [] => some []
  | d :: ds => match st δ d with
    | none => none
    | some δ1 => match t δ1 with
      | some true => match w1 δ1 with
        | some es => match loopC st1 t1 m (wipeD δ1 vs1) es with
          | some r1 => (loopC2 st t vs1 w1 st1 t1 m δ ds).map fun r => r1 ++ r
          | none => none
        | none => none
      | some false => loopC2 st t vs1 w1 st1 t1 m δ ds
      | none => none
def mLc2 (vs : List Nat) (w : M (List D)) (st : DS → D → Option DS) (t : M Bool) (vs1 : List Nat) (w1 : M (List D)) (st1 : DS → D → Option DS) (t1 : M Bool) (m : M D) : M D := fun δ => (w δ).bind fun ds => (loopC2 st t vs1 w1 st1 t1 m (wipeD δ vs) ds).bind fun r => if decide (r.length ≤ sizeLine) then some (.lst r) else none
theorem ox_lc2 {wi wi1 : TI} {g g1 : TG} {st st1 : DS → D → Option DS} {tt tt1 : TT} {t t1 : M Bool} {te : TE} {m : M D} {w w1 : M (List D)} {vs vs1 : List Nat} (hw : Wx c wi w) (hg : Gw c g st vs) (hs : keepsOwn st) (ht : Tx c tt t) (hw1 : Wx c wi1 w1) (hg1 : Gw c g1 st1 vs1) (hs1 : keepsOwn st1) (ht1 : Tx c tt1 t1) (he : Ex c te m) :
    Ox c (tLc2 wi g tt wi1 g1 tt1 te vs vs1) (mLc2 vs w st t vs1 w1 st1 t1 m) := fun δ σ F H Q z S e k => by
  obtain ⟨ds, e1, e2⟩ := Option.bind_eq_some_iff.mp (show (w δ).bind _ = some z from e)
  obtain ⟨res, e3, e3'⟩ := Option.bind_eq_some_iff.mp e2
  split at e3'
  case isFalse => cases e3'
  case isTrue hl =>
  cases e3'
  have hl := of_decide_eq_true hl
  refine hw δ σ F H _ ds S e1 fun J F1 H1 x1 it A hA => ?_
  have hFA : F1 A = none := none_of x1.s hA
  have S1 := S.up x1
  have h0A : c.H0 A = none := by
    cases q : c.H0 A with
    | none => rfl
    | some u => rw [S1.ext.h A u q] at hA; cases hA
  have no1 : NoA A σ δ := NoA.of S1 hA
  have xA : Ext F1 H1 F1 (upd H1 A (.lst [])) := Ext.temp x1.s hA
  refine ⟨fun i n H' => n = ds.length - i ∧ i ≤ ds.length ∧ ∃ F' acc out rst, Ext F1 H1 F' H' ∧ F' A = none ∧ H' A = some (.lst acc) ∧ RpL c.K F' acc out ∧ loopC2 st t vs1 w1 st1 t1 m (wipeD δ vs) (ds.drop i) = some rst ∧ res = out ++ rst,
    ⟨ds.length, by simp, Nat.zero_le _, F1, [], [], res, xA, hFA, upd_same, .nil, e3, rfl⟩, ?_⟩
  rintro i n H2 ⟨rfl, hi, F2, acc, out, rst, x2, hF2, hH2, rl, e4, e5⟩
  by_cases hlt : i < ds.length
  · refine .inr ⟨it.go i F2 H2 x2.f x2.s hlt, ?_⟩
    cases q : ds.drop i with
    | nil =>
      have := congrArg List.length q
      rw [List.length_drop] at this
      simp at this
      omega
    | cons d r =>
      obtain ⟨g1', g2, _⟩ := drop_get q
      rw [q] at e4
      unfold loopC2 at e4
      refine ⟨fun H' => ∃ F' acc out rst, Ext F1 H1 F' H' ∧ F' A = none ∧ H' A = some (.lst acc) ∧ RpL c.K F' acc out ∧ loopC2 st t vs1 w1 st1 t1 m (wipeD δ vs) (ds.drop (i + 1)) = some rst ∧ res = out ++ rst, fun H' z => ⟨_, by omega, rfl, hlt, z⟩, fun x H3 y => ?_⟩
      obtain ⟨F3, x3, r3⟩ := it.yld i F2 H2 x H3 d x2.f x2.s g1' y
      have S3 : SR c.K c.F0 c.H0 F3 H3 (L2.wipe σ vs) (wipeD δ vs) := ((S1.up x2).up x3).wipes vs
      have hF3 : F3 A = none := x3.n A _ hF2 hH2 rfl
      have hH3 : H3 A = some (.lst acc) := x3.h A _ hH2
      cases q1 : st (wipeD δ vs) d with
      | none => rw [q1] at e4; cases e4
      | some δ3 =>
        rw [q1] at e4
        dsimp only at e4
        refine hg _ δ3 σ F3 H3 _ x d S3 r3 q1 fun σ4 S4 hw4 => ⟨hw4, ?_⟩
        have no4 : NoA A σ4 δ3 := no1.step hs q1 hw4
        cases q2 : t δ3 with
        | none => rw [q2] at e4; cases e4
        | some k1 =>
          rw [q2] at e4
          refine ht δ3 σ4 F3 H3 _ k1 S4 q2 fun F5 H5 x5 => ?_
          have hF5 : F5 A = none := x5.n A _ hF3 hH3 rfl
          have hH5 : H5 A = some (.lst acc) := x5.h A _ hH3
          have x15 : Ext F1 H1 F5 H5 := (x2.trans x3).trans x5
          have rl5 : RpL c.K F5 acc out := (rl.mono x3.f).mono x5.f
          cases k1 with
          | false => exact iteF ⟨F5, acc, out, rst, x15, hF5, hH5, rl5, by rw [g2]; exact e4, e5⟩
          | true =>
            dsimp only at e4
            cases q3 : w1 δ3 with
            | none => rw [q3] at e4; cases e4
            | some es =>
              rw [q3] at e4
              dsimp only at e4
              cases q4 : loopC st1 t1 m (wipeD δ3 vs1) es with
              | none => rw [q4] at e4; cases e4
              | some r1 =>
                rw [q4] at e4
                obtain ⟨r2, e6, rfl⟩ := Option.map_eq_some_iff.mp e4
                refine iteT (hw1 δ3 σ4 F5 H5 _ es (S4.up x5) q3 fun J1 F6 H6 x6 it1 => ?_)
                have S6 := (S4.up x5).up x6
                have x16 := x15.trans x6
                refine ⟨fun j n H' => n = es.length - j ∧ j ≤ es.length ∧ ∃ F' acc out' rst', Ext F1 H1 F' H' ∧ Same F6 F' ∧ SR c.K c.F0 c.H0 F' H' σ4 δ3 ∧ F' A = none ∧ H' A = some (.lst acc) ∧ RpL c.K F' acc (out ++ out') ∧ loopC st1 t1 m (wipeD δ3 vs1) (es.drop j) = some rst' ∧ r1 = out' ++ rst',
                  ⟨es.length, by simp, Nat.zero_le _, F6, acc, [], r1, x16, Same.refl _, S6, x6.n A _ hF5 hH5 rfl, x6.h A _ hH5, by rw [List.append_nil]; exact rl5.mono x6.f, q4, rfl⟩, ?_⟩
                rintro j n H7 ⟨rfl, hj, F7, acc7, out7, rst7, x17, s67, S7, hF7, hH7, rl7, e7, e8⟩
                by_cases hjt : j < es.length
                · refine .inr ⟨it1.go j F7 H7 s67 S7.sFH hjt, ?_⟩
                  cases p : es.drop j with
                  | nil =>
                    have := congrArg List.length p
                    rw [List.length_drop] at this
                    simp at this
                    omega
                  | cons d' r' =>
                    obtain ⟨p1, p2, _⟩ := drop_get p
                    rw [p] at e7
                    unfold loopC at e7
                    refine ⟨fun H' => ∃ F' acc out' rst', Ext F1 H1 F' H' ∧ Same F6 F' ∧ SR c.K c.F0 c.H0 F' H' σ4 δ3 ∧ F' A = none ∧ H' A = some (.lst acc) ∧ RpL c.K F' acc (out ++ out') ∧ loopC st1 t1 m (wipeD δ3 vs1) (es.drop (j + 1)) = some rst' ∧ r1 = out' ++ rst', fun H' z => ⟨_, by omega, rfl, hjt, z⟩, fun x' H8 y' => ?_⟩
                    obtain ⟨F8, x8, r8⟩ := it1.yld j F7 H7 x' H8 d' s67 S7.sFH p1 y'
                    have S8 := S7.up x8
                    have hF8 : F8 A = none := x8.n A _ hF7 hH7 rfl
                    have hH8 : H8 A = some (.lst acc7) := x8.h A _ hH7
                    cases q5 : st1 (wipeD δ3 vs1) d' with
                    | none => rw [q5] at e7; cases e7
                    | some δ9 =>
                      rw [q5] at e7
                      dsimp only at e7
                      refine hg1 _ δ9 σ4 F8 H8 _ x' d' (S8.wipes vs1) r8 q5 fun σ9 S9 hw9 => ⟨hw9, ?_⟩
                      cases q6 : t1 δ9 with
                      | none => rw [q6] at e7; cases e7
                      | some k2 =>
                        rw [q6] at e7
                        refine ht1 δ9 σ9 F8 H8 _ k2 S9 q6 fun Fa Ha xa => ?_
                        have hFa : Fa A = none := xa.n A _ hF8 hH8 rfl
                        have hHa : Ha A = some (.lst acc7) := xa.h A _ hH8
                        have sa : Same F6 Fa := s67.trans (x8.f.trans xa.f)
                        cases k2 with
                        | false => exact iteF ⟨Fa, acc7, out7, rst7, (x17.trans x8).trans xa, sa, S8.up xa, hFa, hHa, (rl7.mono x8.f).mono xa.f, by rw [p2]; exact e7, e8⟩
                        | true =>
                          dsimp only at e7
                          cases q7 : m δ9 with
                          | none => rw [q7] at e7; cases e7
                          | some yv =>
                            rw [q7] at e7
                            obtain ⟨rst', e9, rfl⟩ := Option.map_eq_some_iff.mp e7
                            refine iteT (he δ9 σ9 Fa Ha _ yv (S9.up xa) q7 fun v Fb Hb xb rb => ?_)
                            have hFb : Fb A = none := xb.n A _ hFa hHa rfl
                            have hHb : Hb A = some (.lst acc7) := xb.h A _ hHa
                            have hx : Ext F1 H1 Fb Hb := ((x17.trans x8).trans xa).trans xb
                            have rlb : RpL c.K Fb acc7 (out ++ out7) := ((rl7.mono x8.f).mono xa.f).mono xb.f
                            have hlen : acc7.length < sizeLine := by
                              have h1 := rlb.length
                              have h2 : res.length = (out ++ (out7 ++ (yv :: rst') ++ r2)).length := by rw [e5, e8]
                              simp only [List.length_append, List.length_cons] at h1 h2
                              omega
                            refine ⟨acc7, hHb, hlen, Fb, acc7 ++ [v], out7 ++ [yv], rst', ⟨hx.f, fun b o z => ?_, fun b o z => ?_, hx.n⟩, sa.trans xb.f, ((S8.up xa).up xb).poke h0A hFb no4, hFb, upd_same, ?_, by rw [p2]; exact e9, by rw [e8, List.append_assoc]; rfl⟩
                            · rw [upd_ne (ne_of_none z hA)]; exact hx.h b o z
                            · rw [upd_ne (ne_of_none z hFb)]; exact hx.s b o z
                            · rw [← List.append_assoc]; exact rlb.app (.cons rb .nil)
                · have ej : j = es.length := by omega
                  subst ej
                  rw [List.drop_length] at e7
                  cases e7
                  rw [List.append_nil] at e8
                  subst e8
                  exact .inl ⟨it1.stop F7 H7 s67 S7.sFH, F7, acc7, out ++ r1, r2, x17, hF7, hH7, rl7, by rw [g2]; exact e6, by rw [e5, List.append_assoc]⟩
  · have e : i = ds.length := by omega
    subst e
    rw [List.drop_length] at e4
    cases e4
    rw [List.append_nil] at e5
    subst e5
    refine .inl ⟨it.stop F2 H2 x2.f x2.s, k A _ F2 H2 (x1.trans x2) (ext_none x1 hA).2 hH2 hF2 (.lst rl)⟩
end
end DL
namespace DL
open PySem PySem.Spec L2
theorem wipe_set : ∀ (vs : List Nat) (σ : St) (i : Nat) (x : Option V), i ∈ vs → L2.wipe (σ.set i x) vs = L2.wipe σ vs := fun vs σ i x hi => by
  refine List.ext_getElem? fun n => ?_
  have key : ∀ τ : L2.St, n ∈ vs → (L2.wipe τ vs)[n]? = if n < τ.length then some none else none := fun τ hn => by
    cases q : (L2.wipe τ vs)[n]? with
    | none =>
      have := List.getElem?_eq_none_iff.mp q
      rw [wipe_length] at this
      rw [if_neg (by omega)]
    | some o =>
      have := (List.getElem?_eq_some_iff.mp q).1
      rw [wipe_length] at this
      rw [if_pos this]
      cases o with
      | none => rfl
      | some v => exact absurd hn (wipe_some q).2
  by_cases hn : n ∈ vs
  · rw [key _ hn, key _ hn, List.length_set]
  · rw [wipe_out hn, wipe_out hn, List.getElem?_set_ne (fun z => hn (by rw [← z]; exact hi))]
theorem gw_in {c : Cc} (i : Nat) (vs : List Nat) (hi : i ∈ vs := by simp) : Gw c (gName i) (stN i) vs := fun δ δ' σ F H Q v d S r e k => by
  cases e
  refine k _ (S.set r) ?_
  rw [wipe_set vs _ i _ hi]
  refine List.ext_getElem? fun n => ?_
  by_cases hn : n ∈ vs
  · cases q : (L2.wipe (L2.wipe σ vs) vs)[n]? with
    | none =>
      have := List.getElem?_eq_none_iff.mp q
      rw [wipe_length, wipe_length] at this
      exact (List.getElem?_eq_none_iff.mpr (by rw [wipe_length]; exact this)).symm
    | some o =>
      have h1 := (List.getElem?_eq_some_iff.mp q).1
      rw [wipe_length, wipe_length] at h1
      cases o with
      | some x => exact absurd hn (wipe_some q).2
      | none =>
        cases p : (L2.wipe σ vs)[n]? with
        | none =>
          have := List.getElem?_eq_none_iff.mp p
          rw [wipe_length] at this
          omega
        | some o2 =>
          cases o2 with
          | none => rfl
          | some x => exact absurd hn (wipe_some p).2
  · rw [wipe_out hn]
end DL

/-! hand rules: sets of tuples of ints, of unlike length -/
namespace DL
open PySem PySem.Spec L2
section
variable {X : Cx} {pins : List (Addr × Obj)} {σ : L2.St} {H : Hp} {s : Shared}
theorem d_setAddT {E Q : Value → Shared → Prop} {D t : Addr} {k : List Int} {L : List (Addr × List Int)} (hu : X.A.units + 2 < cLine) (I : Inv X pins σ H s) (hD : H D = some (SetTO X.prog X.w D L)) (hL : ∀ p ∈ L, SqT X.K H p.1 (p.2.map V.int)) (ht : SqT X.K H t (k.map V.int)) (hl : L.length + 1 < 64)
    (h : ∀ L' s', (k ∈ L.map (·.2) → L' = L) → (k ∉ L.map (·.2) → L'.Perm ((t, k) :: L)) → Inv X pins σ (upd H D (SetTO X.prog X.w D L')) s' → Q .none s') :
    wpAny (model X.prog X.w) X.A (call (.builtin "set.add") [.ref D, .ref t]) Q E s := by
  have ok : ObjOk X.prog X.w H s.heap D (SetTO X.prog X.w D L) := I.hok D _ hD
  obtain ⟨⟨es, ep, tb, ob, rows, tab, nd, plain, led, room, few⟩, _⟩ := ok
  have R : SetTR X.prog X.w s.heap D L es ep tb := ⟨ob, rows, tab, nd, fun p hp => I.isT (hL p hp), plain, led, room, few⟩
  have hT := I.isT ht
  have ty : s.TypeIs (.ref D) "set" := by
    obtain ⟨o, e, q, _⟩ := ob
    exact ⟨o, e, q.1⟩
  refine call_meetsIn (S := fun A R s0 => wpAny (model X.prog X.w) A.in1 (Builtin.«set.add» { pos := [Value.ref D, Value.ref t] }) (fun fin s' => match fin with
        | Fin.done f => R (Except.ok f) s'
        | Fin.again c' => c'.quiet = true ∧ codeAny (model X.prog X.w) A c' R s') (fun e s' => R (Except.error e) s') s0) PySem.F.slot_set_add ty PySem.F.entry_set_add (PySem.F.args_set_add_2 _ _) (fun A R s0 h0 => h0) ?_
  unfold Builtin.«set.add»
  refine wpAny_bind (wpAny_pure (a := (D, Value.ref t)) ?_)
  refine wpAny_bind ?_
  unfold setAdd
  refine wpAny_holding (wpAny_bind ((tupleKind (intKind X.prog X.w)).pyHash (k := k) (show X.A.in1.units < cLine by show X.A.units + 1 < cLine; omega) hT ?_))
  have R2 : SetTR X.prog X.w ({ heap := s.heap, gens := s.gens, drawn := s.drawn, toks := s.toks + (tupleKind (intKind X.prog X.w)).draws k, os := s.os } : Shared).heap D L es ep tb := R
  refine add_at R2 hT (show X.A.units + 1 < cLine by omega) hl fun b h' L' es' ep' t' sb R' z1 z2 => wpAny_pure ?_
  refine h L' _ z1 z2 ?_
  refine d_write (I.kept (t' := s.toks + (tupleKind (intKind X.prog X.w)).draws k) (fun _ _ e => e)) (by rw [hD]; trivial) sb ?_ (setTO_new R'.t0)
  obtain ⟨o, e, _⟩ := R'.ob
  exact ⟨o, e⟩
end
section
variable {X : Cx}
/-- {e for x in xs if t}, tuples of ints -/
def tScT (P : Program) (w : World) (K : PySem.W.Frag) (wi : TI) (g : TG) (tt : TT) (te : TE) (vs : List Nat) : TE := fun σ H Q => wi σ H fun J H1 => ∀ D, H1 D = none → ∃ W : Nat → Nat → Hp → Prop, (∃ m, W 0 m (upd H1 D (SetTO P w D []))) ∧
  ∀ i m H, W i m H → (J.stop i H ∧ Q (.ref D) H) ∨ (J.go i H ∧ ∃ Nx : Hp → Prop, (∀ H', Nx H' → ∃ m', m' < m ∧ W (i + 1) m' H') ∧
    ∀ x H', J.yld i H x H' → g x (L2.wipe σ vs) H' fun σ2 H2 => L2.wipe σ2 vs = L2.wipe σ vs ∧ tt σ2 H2 fun b H3 => if b = true then te σ2 H3 fun y H4 =>
      ∃ (t : Addr) (k : List Int) (L : List (Addr × List Int)), y = .ref t ∧ SqT K H4 t (k.map V.int) ∧ H4 D = some (SetTO P w D L) ∧ (∀ p ∈ L, SqT K H4 p.1 (p.2.map V.int)) ∧ L.length + 1 < 64 ∧
        ∀ L', (k ∈ L.map (·.2) → L' = L) → (k ∉ L.map (·.2) → L'.Perm ((t, k) :: L)) → Nx (upd H4 D (SetTO P w D L')) else Nx H3)
theorem pe_scT {elt tg iter : Expr} {ifs : List Expr} {scope : Scope} {own : List (Str × Nat)} {pos : Pos} {wi : TI} {g : TG} {tt : TT} {te : TE} (hc : X.calm = true) (hN : X.N.Nodup) (hu : X.A.units + 2 < cLine) (hi : PI X tg iter wi) (ok : BlkOk X.N X.env.scope scope own)
    (hg : ∀ (s : Shared) (H : Hp) (C : Addr) (cl : List (Str × Addr)) (fp : List Addr), PG (X.blk s H scope (compEnvC scope cl C X.env) fp) tg g)
    (ht : ∀ (s : Shared) (H : Hp) (C : Addr) (cl : List (Str × Addr)) (fp : List Addr), PTs (X.blk s H scope (compEnvC scope cl C X.env) fp) ifs tt)
    (he : ∀ (s : Shared) (H : Hp) (C : Addr) (cl : List (Str × Addr)) (fp : List Addr), PE (X.blk s H scope (compEnvC scope cl C X.env) fp) elt te)
    (hf : ∀ x : Value, foldedSetIterable iter X.env x = pure x := by intro x; rfl) : PE X (.SetComp elt [⟨tg, iter, ifs, 0⟩] scope pos) (tScT X.prog X.w X.K wi g tt te (own.map (·.2))) := by
  refine ⟨fun pins s σ H Q I h => ?_⟩
  rw [PpSet.eval_SetComp]
  refine wpAny_comprehension_free (g := ⟨tg, iter, ifs, 0⟩) (gs := []) (cl := cloFrom X.env.cells scope.names []) rfl hf (closure_ok fun y hy hk => I.ok.has y.1 (ok.free y hy hk)) ok.kind (fun y hy hl => by rw [ok.uniq y hy, hl]) ?_
  refine thn (hi.run pins s σ H _ I h) fun v s1 hv => thn hv fun itv s2 ⟨it, fp, tn, J, H1, e1, I2, T, t0, fo, r⟩ => ?_
  subst e1
  refine PpSet.newSet_ok ?_
  obtain ⟨W, ⟨m0, w0⟩, step⟩ := r s2.heap.objs.size (I2.hok.fresh (Nat.le_refl _))
  have I3 : Inv X pins σ (upd H1 s2.heap.objs.size (SetTO X.prog X.w s2.heap.objs.size [])) { heap := s2.heap.push { cls := .type "set", data := Data.set #[] 0 (SetTable.fresh 0 0 !X.w.params.followText "set-order") }, gens := s2.gens, drawn := s2.drawn, toks := s2.toks, os := s2.os } :=
    I2.laid (t' := s2.toks) (fun b o e => Heap.get?_push_of_some _ e) (Nat.le_refl _) (setTO_new (setTR_fresh (Heap.get?_push_size _ rfl)).t0)
  generalize hD : s2.heap.objs.size = D at *
  generalize hs3 : ({ heap := s2.heap.push { cls := .type "set", data := Data.set #[] 0 (SetTable.fresh 0 0 !X.w.params.followText "set-order") }, gens := s2.gens, drawn := s2.drawn, toks := s2.toks, os := s2.os } : Shared) = s3 at *
  have hk3 : ∀ b o, s2.heap.get? b = some o → s3.heap.get? b = some o := fun b o e => by subst hs3; exact Heap.get?_push_of_some _ e
  have lt2 : ∀ b ∈ fp, b < D := fun b hb => by
    obtain ⟨o, e, _⟩ := T.obj 0 _ t0 b hb
    rw [← hD]; exact Heap.lt_size e
  have fp3 : ∀ b ∈ fp, FpOk X pins (upd H1 D (SetTO X.prog X.w D [])) b ∧ b < s3.heap.objs.size := fun b hb => by
    obtain ⟨h1, h2⟩ := fo b hb
    refine ⟨⟨by rw [upd_ne (Nat.ne_of_lt (lt2 b hb))]; exact h1, h2⟩, ?_⟩
    obtain ⟨o, e, _⟩ := T.obj 0 _ t0 b hb
    exact Heap.lt_size (hk3 b o e)
  refine newEnv_comp ?_
  have IB := block_start (own := own) I3 ok hN fp3
  generalize hcl : cellsFrom (s3.heap.objs.size + 1) scope.names (cloFrom X.env.cells scope.names []) = cl at *
  have tn3 : tn 0 (pushCells (s3.heap.push { cls := .type "dict", data := .dict #[] }) scope.names) :=
    T.keep 0 _ _ t0 fun b hb o e => pushCells_keeps _ _ _ _ (Heap.get?_push_of_some _ (hk3 b o e))
  have f3 : ∀ b ∈ fp, (upd H1 D (SetTO X.prog X.w D [])) b = none := fun b hb => (fp3 b hb).1.1
  have hsz : s3.heap.objs.size ≤ s3.heap.objs.size := Nat.le_refl _
  have loop : codeAny (model X.prog X.w) X.A (Code.compLoop (.SetComp elt [⟨tg, iter, ifs, 0⟩] scope pos) 0 (.ref it) (.ref D) (compEnvC scope cl s3.heap.objs.size X.env))
      (compPost (model X.prog X.w) X.A X.xe none (EP X pins σ Q) (.ref D) s3.heap.objs.size)
      { heap := pushCells (s3.heap.push { cls := .type "dict", data := .dict #[] }) scope.names, gens := s3.gens, drawn := s3.drawn, toks := s3.toks, os := s3.os } := by
    refine PpSet.compLoopS_any (I := fun n s => ∃ i H' σ', Inv (X.blk s3 (upd H1 D (SetTO X.prog X.w D [])) scope (compEnvC scope cl s3.heap.objs.size X.env) fp) [] σ' H' s ∧ L2.wipe σ' (own.map (·.2)) = L2.wipe σ (own.map (·.2)) ∧ W i n H' ∧ tn i s.heap ∧ ∀ b ∈ fp, H' b = none)
      (fun n s4 hI => ?_) m0 ⟨0, _, _, IB, wipe_wipe _ _, w0, tn3, f3⟩
    obtain ⟨i, H4, σ4, I4, ew, wn, t4, f4⟩ := hI
    have fpB : ∀ {s5 : Shared} {H5 : Hp} {σ5 : L2.St}, Inv (X.blk s3 (upd H1 D (SetTO X.prog X.w D [])) scope (compEnvC scope cl s3.heap.objs.size X.env) fp) [] σ5 H5 s5 → (∀ b ∈ fp, H5 b = none) → ∀ b ∈ fp, FpOk (X.blk s3 (upd H1 D (SetTO X.prog X.w D [])) scope (compEnvC scope cl s3.heap.objs.size X.env) fp) [] H5 b := fun {s5 H5 σ5} I5 f5 b hb =>
      ⟨f5 b hb, (I5.ok.exf b hb).1, I5.ok.exfs b hb, .inl hb, (I5.ok.exf b hb).2, fun p hp => by simp at hp⟩
    rcases step i n H4 wn with ⟨hs, q⟩ | ⟨hgo, Nx, nx, turn⟩
    · refine thn (T.done (X.blk s3 (upd H1 D (SetTO X.prog X.w D [])) scope (compEnvC scope cl s3.heap.objs.size X.env) fp) rfl rfl rfl hc i [] s4 σ4 H4 _ I4 (fpB I4 f4) t4 hs) fun r5 s5 ⟨e5, I5⟩ => ?_
      subst e5
      show compPost _ _ _ _ _ _ _ _ _
      obtain ⟨m, hm, _⟩ := I5.loc
      refine ⟨m, hm, fun h' sb => ?_⟩
      have J3 : Inv X pins σ H4 s5 := by
        refine I3.call' (ch := fp) I5.os I5.base I5.hok I5.bare fun b hb => ?_
        obtain ⟨_, h2, _, h4, h5, h6⟩ := (fp3 b hb).1
        exact ⟨h4, h2, h5, h6⟩
      have lc : X.env.locals < s3.heap.objs.size := I3.lt
      refine ⟨.ref D, H4, J3.turned (it := s3.heap.objs.size) (fun b o hb e => by rw [sb.2 b hb]; exact e) I5.free (Nat.ne_of_gt lc) (.inr I3.sz) (fun x c hx => ?_) (fun p hp => ?_), rfl, q⟩
      · obtain ⟨v, ⟨o, e, _⟩⟩ := I3.cell x c hx
        exact Nat.ne_of_lt (Heap.lt_size e)
      · exact Nat.ne_of_lt (Heap.lt_size (I3.pin p hp).1)
    · refine thn (T.item (X.blk s3 (upd H1 D (SetTO X.prog X.w D [])) scope (compEnvC scope cl s3.heap.objs.size X.env) fp) rfl rfl rfl hc i [] s4 σ4 H4 _ I4 (fpB I4 f4) t4 hgo) fun r5 s5 ⟨u, e5, h5⟩ => ?_
      subst e5
      refine thn h5 fun _ s6 ⟨x, H6, I6, rx, y6, t6, f6⟩ => ?_
      have P6 := ((inv_wipe I6 (own.map (·.2))).pinned (fpB I6 f6) fun b hb => T.obj _ _ t6 b hb)
      have tr := turn x H6 y6
      rw [ew] at P6
      refine thnF ((hg s3 (upd H1 D (SetTO X.prog X.w D [])) s3.heap.objs.size cl fp).run _ s6 _ H6 x u _ P6 rx tr) fun _ s7 ⟨σ7, H7, I7, ew7, q7⟩ => ?_
      refine thnF ((ht s3 (upd H1 D (SetTO X.prog X.w D [])) s3.heap.objs.size cl fp).run _ s7 σ7 H7 _ I7 q7) fun b s8 ⟨H8, I8, q8⟩ => ?_
      have back : ∀ {s9 : Shared} {H9 : Hp}, Inv (X.blk s3 (upd H1 D (SetTO X.prog X.w D [])) scope (compEnvC scope cl s3.heap.objs.size X.env) fp) ([] ++ pinsAt fp s6.heap) σ7 H9 s9 → Nx H9 → ∃ m, m < n ∧ ∃ i H' σ', Inv (X.blk s3 (upd H1 D (SetTO X.prog X.w D [])) scope (compEnvC scope cl s3.heap.objs.size X.env) fp) [] σ' H' s9 ∧ L2.wipe σ' (own.map (·.2)) = L2.wipe σ (own.map (·.2)) ∧ W i m H' ∧ tn i s9.heap ∧ ∀ b ∈ fp, H' b = none := fun {s9 H9} I9 hn => by
        obtain ⟨m', hm, w'⟩ := nx _ hn
        have get : ∀ b ∈ fp, ∀ o, s6.heap.get? b = some o → s9.heap.get? b = some o ∧ H9 b = none := fun b hb o e => by
          have := I9.pin (b, o) (show (b, o) ∈ [] ++ ([] ++ pinsAt fp s6.heap) from mem_pinsAt hb e)
          exact ⟨this.1, this.2.1⟩
        refine ⟨m', hm, i + 1, H9, σ7, I9.unpinned, ew7, w', T.keep _ _ _ t6 fun b hb o e => (get b hb o e).1, fun b hb => ?_⟩
        obtain ⟨o, e, _⟩ := T.obj _ _ t6 b hb
        exact (get b hb o e).2
      cases b with
      | false => exact back I8 q8
      | true =>
        refine thnF ((he s3 (upd H1 D (SetTO X.prog X.w D [])) s3.heap.objs.size cl fp).run _ s8 σ7 H8 _ I8 q8) fun vv s10 ⟨z, H10, I10, rz, t, k, L, e1, e2, e3, e4, e5, q10⟩ => ?_
        subst e1
        cases rz
        exact d_setAddT (X := X.blk s3 (upd H1 D (SetTO X.prog X.w D [])) scope (compEnvC scope cl s3.heap.objs.size X.env) fp) hu I10 e3 e4 e2 e5 fun L' s' z1 z2 J => back J (q10 L' z1 z2)
  refine PpSet.codeAny_compStart_set ?_ ?_
  · exact loop
  · exact T.self _ 0 _ _ _ tn3 loop
end
end DL

/-! hand rules: sorted of a set of tuples of ints, of unlike length -/
namespace DL
open PySem PySem.Spec L2 PySem.W
section
variable {X : Cx}
def rSortedTS (P : Program) (w : World) (K : PySem.W.Frag) : List V → Hp → VK → Prop := fun vs H Q => ∃ (Pr : Addr → List Int → Prop) (a : Addr) (L : List (Addr × List Int)), vs = [V.ref a] ∧ H a = some (SetTO P w a L) ∧ (∀ p ∈ L, SqT K H p.1 (p.2.map V.int) ∧ Pr p.1 p.2) ∧ (∀ p ∈ L, p.2 ≠ []) ∧
  ∀ (xs : List V) (p : Addr), Paired (TupZ Pr K H) xs (sortL (L.map (·.2))) → H p = none → Q (.ref p) (upd H p (.lst xs))
theorem perm_map {α β : Type} {f : α → β} : ∀ {l : List β} {m : List α}, l.Perm (m.map f) → ∃ m' : List α, m'.Perm m ∧ m'.map f = l := fun {l m} p => by
  generalize e : m.map f = n at p
  induction p generalizing m with
  | nil => exact ⟨[], by cases m with
    | nil => exact List.Perm.refl _
    | cons _ _ => simp at e, rfl⟩
  | cons x _ ih =>
    cases m with
    | nil => simp at e
    | cons y m =>
      simp only [List.map_cons, List.cons.injEq] at e
      obtain ⟨rfl, e⟩ := e
      obtain ⟨m', h1, h2⟩ := ih e
      exact ⟨y :: m', h1.cons y, by rw [List.map_cons, h2]⟩
  | swap x y l =>
    match m, e with
    | a :: b :: m, e =>
      simp only [List.map_cons, List.cons.injEq] at e
      obtain ⟨rfl, rfl, rfl⟩ := e
      exact ⟨b :: a :: m, List.Perm.swap a b m, rfl⟩
  | trans _ _ ih1 ih2 =>
    obtain ⟨m2, h1, h2⟩ := ih2 e
    obtain ⟨m1, h3, h4⟩ := ih1 h2
    exact ⟨m1, h3.trans h1, h4⟩
theorem each_map {R : Value → List Int → Prop} : ∀ {L : List (Addr × List Int)}, (∀ p ∈ L, R (.ref p.1) p.2) → EachIs R (L.map fun p => Value.ref p.1) (L.map (·.2))
  | [], _ => .nil
  | p :: L, h => .cons (h p List.mem_cons_self) (each_map fun q hq => h q (List.mem_cons_of_mem _ hq))
theorem cr_sortedTS (hc : X.calm = true) (hu : X.A.units + 64 < cLine) : CallR X (.builtin "sorted") (rSortedTS X.prog X.w X.K) := by
  intro pins s σ H vs us Q I r h
  obtain ⟨Pr, a, L, rfl, hd, hL, hne, q⟩ := h
  rw [Vals.ref1 r]
  have ok : ObjOk X.prog X.w H s.heap a (SetTO X.prog X.w a L) := I.hok a _ hd
  obtain ⟨⟨es, ep, tb, ob, rows, tab, nd, plain, led, room, few⟩, _⟩ := ok
  have R : SetTR X.prog X.w s.heap a L es ep tb := ⟨ob, rows, tab, nd, fun p hp => I.isT (hL p hp).1, plain, led, room, few⟩
  have hsz : es.size = L.length := by rw [← Array.length_toList, rows]; unfold L2.rowsOf; rw [List.length_map]
  refine Calls.call_function_entry PyProof.Rows.kind_sorted PyProof.Rows.plain_sorted PyProof.Rows.entry_sorted (PyProof.Rows.args_sorted1 _) ?_
  unfold Builtin.«sorted»
  refine wpAny_bind (m := checkCount "sorted" 1 1 _) (wpAny_pure ?_)
  have hat : L2.SetAt s.heap a es ep tb := by
    obtain ⟨o, e1, e2, e3⟩ := ob
    exact ⟨o, e1, e2.1, e3⟩
  have hsc : es.size < scanBound := by
    rw [hsz]
    exact Nat.lt_of_lt_of_le few (by decide)
  refine wpAny_bind (collect_set (P := X.prog) (w := X.w) (show X.A.in1.handled = none from I.ok.hd hc) hat R.fits hsc tab.ris led fun s1 out hk hs hg ho hp => ?_)
  have hp2 : out.Perm (L.map fun p => Value.ref p.1) := by
    refine hp.trans ?_
    rw [rows]; unfold L2.rowsOf; rw [List.map_map]
    exact List.Perm.refl _
  obtain ⟨L', hL', e'⟩ := perm_map hp2
  subst e'
  have hlen : L'.length = L.length := hL'.length_eq
  have hz : (L'.map fun p => Value.ref p.1).length ≤ sizeLine := by
    rw [List.length_map, hlen]
    have : 64 ≤ sizeLine := by decide
    omega
  refine wpAny_bind (wpAny_newList ?_ hz)
  have ea : EachIs (TupU Pr X.K H) (L'.map fun p => Value.ref p.1) (L'.map (·.2)) := each_map fun p hp => by
    have := hL p (hL'.mem_iff.mp hp)
    exact ⟨p.1, rfl, this.1, this.2⟩
  have I2 : Inv X pins σ H { heap := s1.heap, gens := s.gens, drawn := s.drawn, toks := s1.toks, os := s.os } := I.kept (t' := s1.toks) hk
  have hl2 : (L'.map (·.2)).length ≤ sizeLine := by rw [List.length_map]; rw [List.length_map] at hz; exact hz
  refine wpAny_bind (wpAny_holding (sort_new (D := s1.heap.objs.size) (n := 0) I2 (bs := L'.map (·.2)) (vs := L'.map fun p => Value.ref p.1) ?_ (fun b o q => Heap.get?_push_of_some _ q) (Nat.le_refl _) ho hg (Heap.get?_push_size _ rfl) ea (fun b hb => ?_) hl2 fun xs s' h1 J => ?_))
  · show X.A.units + 1 + 2 < cLine
    omega
  · obtain ⟨p, hp', rfl⟩ := List.mem_map.mp hb
    exact hne p (hL'.mem_iff.mp hp')
  · have e3 : sortL (L'.map (·.2)) = sortL (L.map (·.2)) := sortL_uniq ((sortL_perm _).trans ((hL'.map _).trans (sortL_perm _).symm)) (sortL_sorted _) (sortL_sorted _)
    rw [e3] at h1
    exact wpAny_pure ⟨_, rfl, .ref _, _, J, rfl, q xs _ h1 (I2.hok.fresh (Nat.le_refl _))⟩
end
end DL

/-! sorted({e for x in xs if t}), tuples of ints -/
namespace DL
open PySem PySem.Spec L2
theorem hu2 {k : Nat} {A : Around} (h : Room k A) : A.units + 2 < cLine := Nat.lt_of_le_of_lt (by omega) (hu65 h)
section
variable {c : Cc} {P : Program} {ww : World}
def ddL : List (List Int) → List (List Int) → List (List Int)
  | acc, [] => acc
  | acc, k :: r => ddL (if acc.contains k then acc else k :: acc) r
def mSortSc (vs : List Nat) (w : M (List D)) (st : DS → D → Option DS) (t : M Bool) (m : M D) : M D := fun δ => (w δ).bind fun ds => (loopC st t m (wipeD δ vs) ds).bind fun res => (zsD res).bind fun bs => if decide (bs.length < 63) then some (.lst ((sortL (ddL [] bs)).map tupI)) else none
theorem zsD_cons {d : D} {ds : List D} {bs : List (List Int)} (h : zsD (d :: ds) = some bs) : ∃ b r, zD d = some b ∧ zsD ds = some r ∧ bs = b :: r := by
  obtain ⟨b, h1, h2⟩ := Option.bind_eq_some_iff.mp (show ((zD d).bind fun b => (zsD ds).map fun bs => b :: bs) = some bs from h)
  obtain ⟨r, h3, rfl⟩ := Option.map_eq_some_iff.mp h2
  exact ⟨b, r, h1, h3, rfl⟩
theorem ox_sortSc {wi : TI} {g : TG} {st : DS → D → Option DS} {tt : TT} {t : M Bool} {te : TE} {m : M D} {w : M (List D)} {vs : List Nat} (hw : Wx c wi w) (hg : Gw c g st vs) (ht : Tx c tt t) (he : Ex c te m) :
    Ox c (tCB (rSortedTS P ww c.K) (tCons (tScT P ww c.K wi g tt te vs) tNil)) (mSortSc vs w st t m) := fun δ σ F H Q z S e k => by
  obtain ⟨ds, e1, e2⟩ := Option.bind_eq_some_iff.mp (show (w δ).bind _ = some z from e)
  obtain ⟨res, e3, e2⟩ := Option.bind_eq_some_iff.mp e2
  obtain ⟨bs, e4, e2⟩ := Option.bind_eq_some_iff.mp e2
  split at e2
  case isFalse => cases e2
  case isTrue hl =>
  have hl := of_decide_eq_true hl
  cases e2
  refine hw δ σ F H _ ds S e1 fun J F1 H1 x1 it A hA => ?_
  have hFA : F1 A = none := none_of x1.s hA
  have xA : Ext F1 H1 F1 (upd H1 A (SetTO P ww A [])) := Ext.temp x1.s hA
  refine ⟨fun i n H' => n = ds.length - i ∧ i ≤ ds.length ∧ ∃ F' L acc rst br, Ext F1 H1 F' H' ∧ F' A = none ∧ H' A = some (SetTO P ww A L) ∧ (∀ p ∈ L, F' p.1 = some (.tup (p.2.map V.int)) ∧ p.2 ≠ []) ∧ (L.map (·.2)).Perm acc ∧ loopC st t m (wipeD δ vs) (ds.drop i) = some rst ∧ zsD rst = some br ∧ acc.length + br.length < 63 ∧ ddL [] bs = ddL acc br,
    ⟨ds.length, by simp, Nat.zero_le _, F1, [], [], res, bs, xA, hFA, upd_same, fun p hp => (by cases hp), List.Perm.refl _, e3, e4, by simpa using hl, rfl⟩, ?_⟩
  rintro i n H2 ⟨rfl, hi, F2, L, acc, rst, br, x2, hF2, hH2, hL, pm, e5, e6, e7, e8⟩
  by_cases hlt : i < ds.length
  · refine .inr ⟨it.go i F2 H2 x2.f x2.s hlt, ?_⟩
    cases q : ds.drop i with
    | nil =>
      have := congrArg List.length q
      rw [List.length_drop] at this
      simp at this
      omega
    | cons d r =>
      obtain ⟨g1, g2, _⟩ := drop_get q
      rw [q] at e5
      unfold loopC at e5
      refine ⟨fun H' => ∃ F' L acc rst br, Ext F1 H1 F' H' ∧ F' A = none ∧ H' A = some (SetTO P ww A L) ∧ (∀ p ∈ L, F' p.1 = some (.tup (p.2.map V.int)) ∧ p.2 ≠ []) ∧ (L.map (·.2)).Perm acc ∧ loopC st t m (wipeD δ vs) (ds.drop (i + 1)) = some rst ∧ zsD rst = some br ∧ acc.length + br.length < 63 ∧ ddL [] bs = ddL acc br, fun H' z => ⟨_, by omega, rfl, hlt, z⟩, fun x H3 y => ?_⟩
      obtain ⟨F3, x3, r3⟩ := it.yld i F2 H2 x H3 d x2.f x2.s g1 y
      have S3 : SR c.K c.F0 c.H0 F3 H3 (L2.wipe σ vs) (wipeD δ vs) := (((S.up x1).up x2).up x3).wipes vs
      have hF3 : F3 A = none := x3.n A _ hF2 hH2 rfl
      have hH3 : H3 A = some (SetTO P ww A L) := x3.h A _ hH2
      cases q1 : st (wipeD δ vs) d with
      | none => rw [q1] at e5; cases e5
      | some δ3 =>
        rw [q1] at e5
        dsimp only at e5
        refine hg _ δ3 σ F3 H3 _ x d S3 r3 q1 fun σ4 S4 hw4 => ⟨hw4, ?_⟩
        cases q2 : t δ3 with
        | none => rw [q2] at e5; cases e5
        | some k1 =>
          rw [q2] at e5
          refine ht δ3 σ4 F3 H3 _ k1 S4 q2 fun F5 H5 x5 => ?_
          have hF5 : F5 A = none := x5.n A _ hF3 hH3 rfl
          have hH5 : H5 A = some (SetTO P ww A L) := x5.h A _ hH3
          cases k1 with
          | false =>
            exact iteF ⟨F5, L, acc, rst, br, (x2.trans x3).trans x5, hF5, hH5, fun p hp => ⟨x5.f _ _ (x3.f _ _ (hL p hp).1), (hL p hp).2⟩, pm, by rw [g2]; exact e5, e6, e7, e8⟩
          | true =>
            dsimp only at e5
            cases q3 : m δ3 with
            | none => rw [q3] at e5; cases e5
            | some yv =>
              rw [q3] at e5
              obtain ⟨rst', e9, rfl⟩ := Option.map_eq_some_iff.mp e5
              obtain ⟨b, br', z1, z2, rfl⟩ := zsD_cons e6
              obtain ⟨es, rfl, z3, z4⟩ := zD_ok z1
              refine iteT (he δ3 σ4 F5 H5 _ _ (S4.up x5) q3 fun v F6 H6 x6 r6 => ?_)
              obtain ⟨a, xs, rfl, h1, rl⟩ := rp_tup r6
              obtain ⟨rfl, _⟩ := ints_ok rl z3
              have hF6 : F6 A = none := x6.n A _ hF5 hH5 rfl
              have hH6 : H6 A = some (SetTO P ww A L) := x6.h A _ hH5
              have hx : Ext F1 H1 F6 H6 := ((x2.trans x3).trans x5).trans x6
              have hL6 : ∀ p ∈ L, F6 p.1 = some (.tup (p.2.map V.int)) ∧ p.2 ≠ [] := fun p hp => ⟨x6.f _ _ (x5.f _ _ (x3.f _ _ (hL p hp).1)), (hL p hp).2⟩
              have hlen : L.length = acc.length := by have := pm.length_eq; rw [List.length_map] at this; exact this
              refine ⟨a, b, L, rfl, SqT.of (x6.s _ _ h1), hH6, fun p hp => SqT.of (x6.s _ _ (hL6 p hp).1), by simp only [List.length_cons] at e7; omega, fun L' y1 y2 => ?_⟩
              refine ⟨F6, L', if acc.contains b then acc else b :: acc, rst', br', ⟨hx.f, fun b o z => ?_, fun b o z => ?_, hx.n⟩, hF6, upd_same, fun p hp => ?_, ?_, by rw [g2]; exact e9, z2, ?_, e8⟩
              · rw [upd_ne (ne_of_none z hA)]; exact hx.h b o z
              · rw [upd_ne (ne_of_none z hF6)]; exact hx.s b o z
              · by_cases hb : b ∈ L.map (·.2)
                · rw [y1 hb] at hp; exact hL6 p hp
                · rcases List.mem_cons.mp ((y2 hb).mem_iff.mp hp) with rfl | hp
                  · exact ⟨h1, z4⟩
                  · exact hL6 p hp
              · by_cases hb : b ∈ L.map (·.2)
                · rw [y1 hb, if_pos (by simpa using pm.mem_iff.mp hb)]; exact pm
                · rw [if_neg (by simpa using fun h => hb (pm.mem_iff.mpr h))]
                  exact ((y2 hb).map _).trans (pm.cons b)
              · simp only [List.length_cons] at e7
                split
                · omega
                · simp only [List.length_cons]; omega
  · have ei : i = ds.length := by omega
    subst ei
    rw [List.drop_length] at e5
    cases e5
    cases e6
    have e8 : ddL [] bs = acc := e8
    refine .inl ⟨it.stop F2 H2 x2.f x2.s, fun t b => F2 t = some (.tup (b.map V.int)), A, L, rfl, hH2, fun p hp => ⟨SqT.of (x2.s _ _ (hL p hp).1), (hL p hp).1⟩, fun p hp => (hL p hp).2, fun xs p hxs hp => ?_⟩
    have e10 : sortL (L.map (·.2)) = sortL (ddL [] bs) := by
      rw [e8]
      exact sortL_uniq ((sortL_perm _).trans (pm.trans (sortL_perm _).symm)) (sortL_sorted _) (sortL_sorted _)
    rw [e10] at hxs
    have x12 := x1.trans x2
    exact k p _ F2 _ (x12.trans (Ext.temp x2.s hp)) (ext_none x12 hp).2 upd_same (none_of x2.s hp) (.lst (paired_rp hxs))
end
end DL

/-! is None; abs -/
namespace DL
open PySem PySem.Spec L2
section
variable {c : Cc} {ta : TE} {ma : M D}
def nonD : D → Bool
  | .non => true
  | _ => false
theorem non_ok {K : PySem.W.Frag} {F H : Hp} {v : V} {d : D} (s : Same F H) (r : RB K F H v d) : decide (v = .non) = nonD d := by
  have r := r.h s
  cases r with
  | obj e o => cases o <;> rfl
  | _ => rfl
def fIsN (neg : Bool) (d : D) : Option D := some (.bl (if neg then !nonD d else nonD d))
theorem non_ok' {K : PySem.W.Frag} {H : Hp} {v : V} {d : D} (r : Rp K H v d) : decide (v = .non) = nonD d := by
  cases r with
  | obj e o => cases o <;> rfl
  | _ => rfl
theorem ex_isN (ha : Bx c ta ma) : Ex c (tIsN ta) (mF (fIsN false) ma) := fun δ σ F H Q z S e k => by
  obtain ⟨d, e1, e2⟩ := Option.bind_eq_some_iff.mp (show (ma δ).bind (fIsN false) = some z from e)
  cases e2
  refine ha δ σ F H _ _ S e1 fun x F1 H1 x1 r1 => ?_
  show Q (.bl (decide (x = .non))) H1
  rw [non_ok x1.s r1]
  exact k _ F1 H1 x1 (.bl _)
theorem ex_notN (ha : Bx c ta ma) : Ex c (tNotN ta) (mF (fIsN true) ma) := fun δ σ F H Q z S e k => by
  obtain ⟨d, e1, e2⟩ := Option.bind_eq_some_iff.mp (show (ma δ).bind (fIsN true) = some z from e)
  cases e2
  refine ha δ σ F H _ _ S e1 fun x F1 H1 x1 r1 => ?_
  show Q (.bl (!decide (x = .non))) H1
  rw [non_ok x1.s r1]
  exact k _ F1 H1 x1 (.bl _)
end
theorem op_isB {c : Cc} : OpB c rIsN (fun d e => if nonD e then fIsN false d else none) := fun F H x y d e z Q s r1 r2 h k => by
  have h : (if nonD e = true then fIsN false d else none) = some z := h
  split at h
  · rename_i he
    cases e with
    | non =>
      cases h
      refine ⟨rp_non r2, ?_⟩
      rw [non_ok' r1]
      exact k _ F H (Ext.refl s) (.bl _)
    | _ => cases he
  · cases h
def rAbsI : List V → Hp → VK → Prop := fun xs H Q => ∃ i, xs = [.int i] ∧ Q (.int (if i < 0 then -i else i)) H
theorem hAbsI {X : Cx} : CallR X (.builtin "abs") rAbsI := call_abs
def fAbsI : D → Option D
  | .int i => some (.int (if i < 0 then -i else i))
  | _ => none
theorem bAbsI {c : Cc} : CB c rAbsI (f1 fAbsI) := fun F H vs ds z Q s r h k => by
  obtain ⟨d, rfl, h⟩ := f1_some h
  obtain ⟨v, rfl, r1⟩ := rbl1 r
  cases d with
  | int i =>
    cases h
    obtain rfl := rp_int (r1.h s)
    exact ⟨i, rfl, k _ F H (Ext.refl s) (.int _)⟩
  | _ => cases h
section
variable {c : Cc} {ta tb tc : TE} {ma mb mc : M D}
def mOwnX3 (i j l : Nat) (ma mb mc : M D) : M Fl := fun δ => (ma δ).bind fun d => (mb δ).bind fun e => (mc δ).bind fun g => if isOwnD d then some (.nx (((δ.set i (SV.own d)).set j (SV.fro e)).set l (SV.fro g))) else none
theorem sx_ownX3 (i j l : Nat) (ha : Ox c ta ma) (hb : Ex c tb mb) (hc : Ex c tc mc) : Sx c (tPar3 i j l (tCons ta (tCons tb (tCons tc tNil)))) (mOwnX3 i j l ma mb mc) := fun δ σ F H En fl S e k => by
  obtain ⟨d, e1, f1⟩ := Option.bind_eq_some_iff.mp (show (ma δ).bind _ = some fl from e)
  obtain ⟨d2, e2, f2⟩ := Option.bind_eq_some_iff.mp f1
  obtain ⟨d3, e3, f3⟩ := Option.bind_eq_some_iff.mp f2
  split at f3
  · rename_i hd
    cases f3
    refine ha δ σ F H _ d S e1 fun a o F1 H1 x1 hn ha hf r => ?_
    refine hb δ σ F1 H1 _ d2 (S.up x1) e2 fun v F2 H2 x2 r2 => ?_
    refine hc δ σ F2 H2 _ d3 ((S.up x1).up x2) e3 fun u F3 H3 x3 r3 => ?_
    exact ⟨_, _, _, rfl, k _ F3 H3 (((((S.setOwn x1 hn ha hf r hd).up x2).up x3).set (r2.mono x3.f)).set r3) (x1.f.trans (x2.f.trans x3.f))⟩
  · cases f3
def mPar3 (i j l : Nat) (ma mb mc : M D) : M Fl := fun δ => (ma δ).bind fun d => (mb δ).bind fun e => (mc δ).bind fun g => some (.nx (((δ.set i (SV.fro d)).set j (SV.fro e)).set l (SV.fro g)))
theorem sx_par3 (i j l : Nat) (ha : Ex c ta ma) (hb : Ex c tb mb) (hc : Ex c tc mc) : Sx c (tPar3 i j l (tCons ta (tCons tb (tCons tc tNil)))) (mPar3 i j l ma mb mc) := fun δ σ F H En fl S e k => by
  obtain ⟨d, e1, f1⟩ := Option.bind_eq_some_iff.mp (show (ma δ).bind _ = some fl from e)
  obtain ⟨d2, e2, f2⟩ := Option.bind_eq_some_iff.mp f1
  obtain ⟨d3, e3, f3⟩ := Option.bind_eq_some_iff.mp f2
  cases f3
  refine ha δ σ F H _ d S e1 fun w F1 H1 x1 r => ?_
  refine hb δ σ F1 H1 _ d2 (S.up x1) e2 fun v F2 H2 x2 r2 => ?_
  refine hc δ σ F2 H2 _ d3 ((S.up x1).up x2) e3 fun u F3 H3 x3 r3 => ?_
  exact ⟨_, _, _, rfl, k _ F3 H3 ((((((S.up x1).up x2).up x3).set ((r.mono x2.f).mono x3.f)).set (r2.mono x3.f)).set r3) (x1.f.trans (x2.f.trans x3.f))⟩
end
end DL

/-! sorted of a dict with tuple keys, by key=lambda x: (len(x), x) -/
namespace DK
open PySem PySem.Spec PyProof.Rows L2 LamX DL
/-- the text of the lambda -/
abbrev kPar (x : Str) (p : Pos) : Arguments := { posonlyargs := [], args := [{ arg := x, annotation := none, pos := p }], vararg := none, kwonlyargs := [], kw_defaults := [], kwarg := none, defaults := [] }
abbrev kBody (x : Str) (p1 p2 p3 p4 p5 : Pos) : Expr := .Tuple [.Call (.Name "len" p1) [.Name x p2] [] p3, .Name x p4] 0 p5
abbrev kScope (x : Str) : Scope := { kind := .function, names := [(x, .local), (Str.ofString "len", .globalImplicit)], isGenerator := false, isCoroutine := false, more := [] }
/-- what the key of a tuple of ints is -/
abbrev encK (b : List Int) : PyData := .tuple [.int b.length, .tuple (b.map .int)]
section
variable {prog : Program} {w : World} {A : Around} {s : Shared}
theorem key_turn {x qual : Str} {f t c' : Addr} {pm ctv : Value} {p p1 p2 p3 p4 p5 : Pos} {vs : List Value} {b : List Int} {mg mb : Str → Option Value} (hx : x ≠ "len") (hdb : (x == ("__debug__" : Str)) = false) (hbind : ∀ (q : Str) (pm cv ctv v : Value), bindArgs (PySem.W.kla_fn "<lambda>" q (kPar x p) (kBody x p1 p2 p3 p4 p5) (kScope x) [] pm cv ctv) ⟨[v], []⟩ = pure [(x, v)])
    (ho : s.heap.get? f = some (PySem.W.kla_obj "<lambda>" qual (kPar x p) (kBody x p1 p2 p3 p4 p5) (kScope x) [] pm c' ctv)) (hcd : s.heap.CodeRec (.ref c') qual) (hroom : A.depth < recursionLimit) (lim : s.heap.NoLimit)
    (hg : s.heap.Ns mainGlobals mg) (hgl : mg "len" = none) (hb : s.heap.Ns builtinsNs mb) (hbl : mb "len" = some (.builtin "len"))
    (ht : Reads s.heap (.ref t) (.tuple (b.map .int)) []) (hl : s.heap.get? t = some (seqObj "tuple" vs.toArray 0) ∨ IsTup s.heap t vs.toArray) (hv : vs.length = b.length) (hsz : b.length ≤ sizeLine) :
    wpAny (model prog w) A (call (.ref f) [.ref t]) (PySem.W.KeyPure (encK b) s) (fun _ _ => False) s := by
  have hl : IsTup s.heap t vs.toArray := by
    rcases hl with h | h
    · exact ⟨_, h, rfl, 0, rfl⟩
    · exact h
  refine wpAny_call (PySem.W.kla_callFunE hroom ho rfl rfl rfl rfl hcd ?_)
  rw [hbind]
  refine wpAny_pure (wpAny_newFunctionEnv (fun y hy => ?_) (fun y hy => ?_) (fun h₁ hns hsb => ⟨lim.fresh _ hsb, ?_⟩) rfl)
  · simp only [List.mem_cons, List.not_mem_nil, or_false] at hy
    rcases hy with rfl | rfl <;> (intro z; cases z)
  · simp only [List.mem_cons, List.not_mem_nil, or_false] at hy
    subst hy
    simp [List.lookup]
  have kp : ∀ b o, s.heap.get? b = some o → h₁.get? b = some o := fun b o e => hsb.extBut b o (Nat.ne_of_lt (Heap.lt_size e)) (Heap.get?_push_of_some _ e)
  refine PySem.W.kla_codeExpr ?_
  have hvx : ([(x, Value.ref t)].reverse.lookup x) = some (.ref t) := by simp [List.lookup]
  have hlx : (List.lookup x (kScope x).names) = some .local := by simp [List.lookup]
  have e1 : (x == x) = true := beq_self_eq_true x
  have e2 : (Str.ofString "len" == x) = false := beq_eq_false_iff_ne.mpr fun z => hx z.symm
  have hll : (List.lookup (Str.ofString "len") (kScope x).names) = some .globalImplicit := by
    simp [List.lookup, e2]
  show wpAny (model prog w) _ (eval (kBody x p1 p2 p3 p4 p5) (PySem.W.envX qual (kScope x) s.heap.objs.size f (.ref c') [])) _ _ { s with heap := h₁, toks := s.toks + 1 }
  have ldx : ∀ {A : Around} {q : Pos} {Q : Value → Shared → Prop} {E : Value → Shared → Prop} {g : Heap} {tk : Nat}, g.Ns s.heap.objs.size (fun y => [(x, Value.ref t)].reverse.lookup y) → Q (.ref t) { s with heap := g, toks := tk } →
      wpAny (model prog w) A (eval (.Name x q) (PySem.W.envX qual (kScope x) s.heap.objs.size f (.ref c') [])) Q E { s with heap := g, toks := tk } := fun hn hq =>
    wpAny_Name (wpAny_loadName_local rfl hlx hn hvx hq) hdb
  refine wpAny_Tuple (Calls.spliced_cons ?_)
  refine wpAny_Call_Name_kw (Calls.Name_function_global rfl hll (Calls.loadGlobal_builtin (hg.keeps kp) hgl (hb.keeps kp) hbl ?_) (by decide))
  refine callWith_builtin1 (Calls.spliced_cons (ldx hns (Calls.spliced_nil ?_))) rfl rfl
  have hsz2 : ((vs.toArray.size : Nat) : Int) < 2 ^ 63 := by
    rw [List.size_toArray, hv]
    have := hsz
    rw [sizeLine_eq] at this
    omega
  refine len_tuple (hl.keeps kp) hsz2 ?_
  refine Calls.spliced_cons (ldx hns (Calls.spliced_nil ⟨by show 2 ≤ sizeLine; rw [sizeLine_eq]; omega, ?_⟩))
  refine ⟨_, _, rfl, fun b o e => Heap.get?_push_of_some _ (kp b o e), ?_⟩
  have hr : Reads (h₁.push { cls := .type "tuple", data := .seq [Value.int vs.toArray.size (s.toks + 1 + 1), .ref t].toArray }) (.ref h₁.objs.size) (encK b) [] := by
    refine .tuple (Heap.get?_push_size _ rfl) rfl rfl ?_
    have e3 : ((vs.toArray.size : Nat) : Int) = (b.length : Int) := by rw [List.size_toArray, hv]
    rw [e3]
    exact ReadsAll.cons (as := []) (bs := []) (.int _ _) (ReadsAll.cons (as := []) (bs := []) (PyProof.Rows.Reads.keeps (fun b o e => Heap.get?_push_of_some _ (kp b o e)) ht) .nil)
  exact hr
end
end DK

namespace DK
open PySem PySem.Spec PyProof.Rows L2 LamX DL PySem.W
/-! the order: by length, then as lists -/
def lenB : List Int → List Int → Bool
  | [], _ => true
  | _ :: _, [] => false
  | _ :: xs, _ :: ys => lenB xs ys
theorem lenB_iff : ∀ a b : List Int, lenB a b = decide (a.length ≤ b.length)
  | [], b => by simp [lenB]
  | x :: xs, [] => by simp [lenB]
  | x :: xs, y :: ys => by
    unfold lenB
    rw [lenB_iff xs ys]
    simp
def kLe (a b : List Int) : Prop := a.length < b.length ∨ (a.length = b.length ∧ a ≤ b)
instance (a b : List Int) : Decidable (kLe a b) := inferInstanceAs (Decidable (_ ∨ _))
def kB (a b : List Int) : Bool := if lenB a b then (if lenB b a then lexB a b else true) else false
theorem kB_iff (a b : List Int) : kB a b = decide (kLe a b) := by
  unfold kB
  rw [lenB_iff, lenB_iff, lexB_iff]
  unfold kLe
  by_cases h1 : a.length ≤ b.length
  · rw [decide_eq_true h1, if_pos rfl]
    by_cases h2 : b.length ≤ a.length
    · rw [decide_eq_true h2, if_pos rfl]
      have e : a.length = b.length := by omega
      have n : ¬ a.length < b.length := by omega
      simp [e]
    · rw [decide_eq_false h2, if_neg Bool.false_ne_true]
      have : a.length < b.length := by omega
      simp [this]
  · rw [decide_eq_false h1, if_neg Bool.false_ne_true]
    have n : ¬ a.length < b.length := by omega
    have e : ¬ a.length = b.length := by omega
    simp [n, e]
theorem kLe_tot (a b : List Int) : kLe a b ∨ kLe b a := by
  unfold kLe
  rcases Nat.lt_trichotomy a.length b.length with h | h | h
  · exact .inl (.inl h)
  · rcases List.le_total a b with q | q
    · exact .inl (.inr ⟨h, q⟩)
    · exact .inr (.inr ⟨h.symm, q⟩)
  · exact .inr (.inl h)
theorem kLe_trans {a b c : List Int} (h1 : kLe a b) (h2 : kLe b c) : kLe a c := by
  unfold kLe at h1 h2 ⊢
  rcases h1 with h1 | ⟨h1, q1⟩ <;> rcases h2 with h2 | ⟨h2, q2⟩
  · exact .inl (by omega)
  · exact .inl (by omega)
  · exact .inl (by omega)
  · exact .inr ⟨by omega, List.le_trans q1 q2⟩
theorem kLe_anti {a b : List Int} (h1 : kLe a b) (h2 : kLe b a) : a = b := by
  unfold kLe at h1 h2
  rcases h1 with h1 | ⟨h1, q1⟩ <;> rcases h2 with h2 | ⟨h2, q2⟩ <;> first
    | omega
    | exact List.le_antisymm q1 q2
def insK (i : List Int) : List (List Int) → List (List Int)
  | [] => [i]
  | j :: js => if kB i j then i :: j :: js else j :: insK i js
def sortK : List (List Int) → List (List Int)
  | [] => []
  | i :: is => insK i (sortK is)
theorem insK_perm (i : List Int) : ∀ js, (insK i js).Perm (i :: js)
  | [] => List.Perm.refl _
  | j :: js => by
    unfold insK
    split
    · exact List.Perm.refl _
    · exact ((insK_perm i js).cons j).trans (List.Perm.swap i j js)
theorem sortK_perm : ∀ is, (sortK is).Perm is
  | [] => List.Perm.refl _
  | i :: is => (insK_perm i _).trans ((sortK_perm is).cons i)
theorem insK_sorted (i : List Int) : ∀ js : List (List Int), js.Pairwise kLe → (insK i js).Pairwise kLe
  | [], _ => List.pairwise_singleton _ _
  | j :: js, h => by
    unfold insK
    rw [kB_iff]
    obtain ⟨h1, h2⟩ := List.pairwise_cons.mp h
    by_cases hij : kLe i j
    · rw [decide_eq_true hij, if_pos rfl]
      refine List.pairwise_cons.mpr ⟨fun y hy => ?_, h⟩
      rcases List.mem_cons.mp hy with rfl | hy
      · exact hij
      · exact kLe_trans hij (h1 y hy)
    · rw [decide_eq_false hij, if_neg Bool.false_ne_true]
      have hji : kLe j i := (kLe_tot i j).resolve_left hij
      refine List.pairwise_cons.mpr ⟨fun y hy => ?_, insK_sorted i js h2⟩
      rcases List.mem_cons.mp ((insK_perm i js).mem_iff.mp hy) with rfl | hy
      · exact hji
      · exact h1 y hy
theorem sortK_sorted : ∀ is, (sortK is).Pairwise kLe
  | [] => List.Pairwise.nil
  | i :: is => insK_sorted i _ (sortK_sorted is)
theorem sortK_uniq : ∀ {a b : List (List Int)}, a.Perm b → a.Pairwise kLe → b.Pairwise kLe → a = b
  | [], b, p, _, _ => (List.nil_perm.mp p).symm
  | x :: a, b, p, ha, hb => by
    cases b with
    | nil => exact absurd p.length_eq (by simp)
    | cons y b =>
      obtain ⟨h1, h2⟩ := List.pairwise_cons.mp ha
      obtain ⟨h3, h4⟩ := List.pairwise_cons.mp hb
      have e : x = y := by
        have m1 : x ∈ y :: b := p.mem_iff.mp List.mem_cons_self
        have m2 : y ∈ x :: a := p.mem_iff.mpr List.mem_cons_self
        rcases List.mem_cons.mp m1 with e | m1
        · exact e
        rcases List.mem_cons.mp m2 with e | m2
        · exact e.symm
        exact kLe_anti (h1 y m2) (h3 x m1)
      subst e
      rw [sortK_uniq (List.Perm.cons_inv p) h2 h4]
theorem eqv_ints : ∀ a b : List Int, PyData.eqvAll (a.map .int) (b.map .int) = decide (a = b)
  | [], [] => by simp [PyData.eqvAll]
  | [], y :: ys => by simp [PyData.eqvAll]
  | x :: xs, [] => by simp [PyData.eqvAll]
  | x :: xs, y :: ys => by
    simp only [List.map_cons, PyData.eqvAll, PyData.eqv]
    rw [eqv_ints xs ys]
    by_cases h1 : x = y <;> by_cases h2 : xs = ys <;> simp [h1, h2]
theorem dataLe_K : dataLe false encK = fun p q => decide (kLe p q) := by
  funext p q
  show (!dataLt (encK q) (encK p)) = _
  rw [dataLt_pair (by simp [alike]) (by show alike (.tuple _) (.tuple _) = true; simp only [alike]; exact alike_ints q p), dataLt_int, dataLt_tuple]
  have e1 : PyData.eqv (.tuple (q.map .int)) (.tuple (p.map .int)) = decide (q = p) := by
    rw [PyData.eqv]; exact eqv_ints q p
  rw [e1]
  have e2 : PyProof.Rows.lexLt itemOrd (keyToksAll (q.map .int)) (keyToksAll (p.map .int)) = decide (q < p) := dataLt_ints q p
  rw [e2]
  have e3 : PyData.eqv (.int (q.length : Int)) (.int (p.length : Int)) = decide (q.length = p.length) := by
    rw [PyData.eqv]
    by_cases h : q.length = p.length
    · rw [h]; simp
    · have : ¬ (q.length : Int) = (p.length : Int) := by omega
      simp [h, this]
  rw [e3]
  unfold kLe
  by_cases h : q.length = p.length
  · rw [decide_eq_true h, if_pos rfl]
    by_cases h2 : q = p
    · subst h2
      simp
    · rw [decide_eq_false h2, if_neg Bool.false_ne_true]
      by_cases h3 : q < p
      · have : ¬ p ≤ q := fun r => List.not_lt.mpr r h3
        simp [h3, this, h]
      · have : p ≤ q := List.not_lt.mp h3
        simp [h3, this, h]
  · rw [decide_eq_false h, if_neg Bool.false_ne_true]
    by_cases h3 : q.length < p.length
    · have n1 : ¬ p.length < q.length := by omega
      have n2 : ¬ p.length = q.length := by omega
      have z : ((q.length : Int) < (p.length : Int)) := by omega
      simp [n1, n2, z]
    · have n1 : p.length < q.length := by omega
      have z : ¬ ((q.length : Int) < (p.length : Int)) := by omega
      simp [n1, z]
theorem merge_sortK (bs : List (List Int)) : bs.mergeSort (dataLe false encK) = sortK bs := by
  rw [dataLe_K]
  refine sortK_uniq ((List.mergeSort_perm bs _).trans (sortK_perm bs).symm) ?_ (sortK_sorted bs)
  have := List.pairwise_mergeSort (le := fun p q : List Int => decide (kLe p q)) (fun a b c h1 h2 => ?_) (fun a b => ?_) bs
  · exact this.imp fun h => of_decide_eq_true h
  · exact decide_eq_true (kLe_trans (of_decide_eq_true h1) (of_decide_eq_true h2))
  · rcases kLe_tot a b with h | h
    · rw [decide_eq_true h]; rfl
    · rw [decide_eq_true h]; simp
theorem key_alike (bs : List (List Int)) : AllAlike (bs.map encK) := AllAlike.of fun b b' => by
  show alike (.tuple _) (.tuple _) = true
  simp only [alike, alikeAll, alike_ints, Bool.and_true]
theorem key_sortable (bs : List (List Int)) : Sortable (bs.map encK) := Sortable.tuples fun b => ⟨_, _, rfl⟩
theorem key_depth (b : List Int) : (encK b).depth ≤ 2 := by
  show PyData.depth (.tuple _) ≤ 2
  simp only [PyData.depth, PyData.depthAll, depth_ints]
  omega
end DK

namespace DK
open PySem PySem.Spec PyProof.Rows L2 LamX DL PySem.W
/-- what the sorted keys are -/
def kSorted (K : PySem.W.Frag) (T : List (Addr × Str)) (Q : VK) (vs : List V) (H1 : Hp) : Prop := ∃ (a : Addr) (kvt : List (List Key × V)) (bs : List (List Int)), vs = [.ref a] ∧ H1 a = some (.dT kvt) ∧ kvt.map (·.1) = bs.map (fun b => b.map Sum.inl) ∧ (∀ b ∈ bs, b ≠ []) ∧ (∀ b ∈ bs, b.length ≤ sizeLine) ∧
  Tabs T H1 ∧ ∀ H2, ExtN H1 H2 → Tabs T H2 → ∀ (xs : List V) (p : Addr), Paired (TupZ (fun t b => H2 t = some (.tup (b.map V.int))) K H2) xs (sortK bs) → H2 p = none → Q (.ref p) (upd H2 p (.lst xs))
def tSortK (K : PySem.W.Frag) (T : List (Addr × Str)) (te : TE) : TE := fun σ H Q => tCons te tNil σ H (kSorted K T Q)
section
variable {X : Cx}
theorem pe_sortK {T : List (Addr × Str)} {x : Str} {c P : Addr} {y : Str} {yp : Pos} {te : TE} {p pp p1 p2 p3 p4 p5 lpos kpos pos : Pos} (hx : x ≠ "len") (hdb : (x == ("__debug__" : Str)) = false)
    (hbind : ∀ (q : Str) (pm cv ctv v : Value), bindArgs (PySem.W.kla_fn "<lambda>" q (kPar x pp) (kBody x p1 p2 p3 p4 p5) (kScope x) [] pm cv ctv) ⟨[v], []⟩ = pure [(x, v)])
    (hr : Room 0 X.A) (hc : X.calm = true) (hg : Gl X "sorted") (hm : X.mg "sorted" = none) (hml : X.mg "len" = none)
    (TB : TabB X.base X.mg c P) (hcode : X.env.code = .ref c) (hmT : (P, X.env.qual ++ "<lambda>") ∈ T) (hu : ∀ p ∈ T, p.1 = P → p.2 = X.env.qual ++ "<lambda>") (he : PE X (.Name y yp) te)
    (hdef : defaultsOf (kPar x pp) X.env = ([], []) := by rfl) :
    PE X (.Call (.Name "sorted" p) [.Name y yp] [⟨some "key", .Lambda (kPar x pp) (kBody x p1 p2 p3 p4 p5) (kScope x) lpos, kpos⟩] pos) (tSortK X.K T te) := by
  refine ⟨fun pins s σ H Q I h => ?_⟩
  refine wpAny_Call_Name_kw (ld_blt I hg hm rfl ?_ (by decide) (by decide))
  refine PyProof.Rows.callWith_kw (thn ((pa_cons he pa_nil).run pos pins s σ H _ I h) fun us s1 hh => ?_) rfl rfl rfl rfl
  obtain ⟨vs, H1, I1, r1, a, kvt, bs, ev, hd, hk, hne, hln, hT, q⟩ := hh
  subst ev
  rw [Vals.ref1 r1]
  show wpAny _ _ (evalAll ((do let v ← eval (.Lambda (kPar x pp) (kBody x p1 p2 p3 p4 p5) (kScope x) lpos) X.env; standAt pos; pure v) :: [])) _ _ s1
  refine wpAny_evalAll_cons (wpAny_bind (lam_make2 I1 TB hcode hmT hu hT hdef (fun y hy z => ?_) fun f c' pm ctv H2 s2 I2 eN T2 hf hfn hfr hco => ?_))
  · exfalso
    simp only [List.mem_cons, List.not_mem_nil, or_false] at hy
    rcases hy with rfl | rfl <;> cases z
  refine wpAny_bind (wpAny_standAt (wpAny_pure (wpAny_evalAll_nil ?_)))
  have hcl : cloFrom X.env.cells (kScope x).names [] = [] := rfl
  rw [hcl] at hf
  have hd2 : H2 a = some (.dT kvt) := eN _ _ hd fun ps z => by cases z
  have q := q H2 eN T2
  show wpAny _ _ (call (.builtin "sorted") [.ref a] [(Str.ofString "key", .ref f)]) _ _ s2
  obtain ⟨z, hs, ks, pr, o, es, ep, ho, hxd, hdt, hen, hnn⟩ := (show ObjOk X.prog X.w H2 s2.heap a (.dT kvt) from I2.hok a _ hd2)
  have l2 : kvt.length = ks.length := Paired.length pr
  have l1 : es.size = ks.length := size_of_entries hen
  have l3 : bs.length = kvt.length := by
    have := congrArg List.length hk
    rw [List.length_map, List.length_map] at this
    exact this.symm
  refine PyProof.Rows.call_function_entry_kw PyProof.Rows.kind_sorted PyProof.Rows.plain_sorted PyProof.Rows.entry_sorted (PyProof.Rows.ksk_s1 _ _) ?_
  unfold Builtin.«sorted»
  refine wpAny_bind (m := checkCount "sorted" 1 1 _) (wpAny_pure ?_)
  refine wpAny_bind (PySem.W.kdu_collect (A := X.A.in1) (kdl_raw hs hxd hdt) (I2.ok.hd hc) ho (by omega) fun h' tk acc kp it => ?_)
  have ea : acc.toList = ks.map fun x => Value.ref x.2.1 := by
    refine List.ext_getElem? fun j => ?_
    have hl : acc.toList.length = ks.length := by rw [Array.length_toList, it.1]; exact l1
    cases hj : acc.toList[j]? with
    | none =>
      have h1 := List.getElem?_eq_none_iff.mp hj
      rw [List.getElem?_eq_none (by rw [List.length_map]; omega)]
    | some v =>
      obtain ⟨en, hen2, hv⟩ := it.2 j v (by rw [← Array.getElem?_toList]; exact hj)
      have qe := entry_at hen j
      rw [hen2] at qe
      cases hb : ks[j]? with
      | none => rw [hb] at qe; cases qe
      | some x =>
        rw [hb] at qe
        have qe := Option.some.inj qe
        rw [List.getElem?_map, hb, hv, qe]
        rfl
  have hl : acc.toList.length ≤ sizeLine := by rw [ea, List.length_map]; omega
  refine wpAny_bind (wpAny_newList ?_ hl)
  have e := keys_each (K := X.K) (f := fun _ _ _ => True) pr hk
  rw [← ea] at e
  have I3 : Inv X pins σ H2 { s2 with heap := h', toks := tk } := I2.kept (t' := tk) kp
  obtain ⟨⟨oc, us, tq, hoc, hdc, hvc⟩, _, _⟩ := I2.hok c' _ hco
  obtain ⟨mb, hb1, hb2⟩ := I2.mod.blt
  have hf3 : h'.get? f = some (PySem.W.kla_obj "<lambda>" (X.env.qual ++ "<lambda>") (kPar x pp) (kBody x p1 p2 p3 p4 p5) (kScope x) [] pm c' ctv) := kp _ _ hf
  refine wpAny_bind (wpAny_holding ?_)
  show wpAny _ _ (call (.builtin "list.sort") [.ref h'.objs.size] [(Str.ofString "key", .ref f)]) _ _ _
  refine PySem.W.list_sort_key_data (b := false) (R := TupU (fun t b => H2 t = some (.tup (b.map V.int))) X.K H2) (bs := bs) (vs := acc.toList) encK (n := 0) (Heap.get?_push_size _ rfl) e (key_alike bs) (key_sortable bs) (by omega) (fun b _ => ?_) (PyProof.Rows.ksk_l1 _ _) (PyProof.Rows.ksk_t1 f _) (fun v b hR hb h3 tk3 kB => ?_) fun out cc h3 tk3 kB hD hlen eo => ?_
  · have := key_depth b
    have := hr.un
    show X.A.units + 1 + 1 + _ < cLine
    omega
  · obtain ⟨t, rfl, hsq, hHt⟩ := hR
    have old : ∀ b o, h'.get? b = some o → h3.get? b = some o := fun b o q => kB b o (Nat.ne_of_lt (Heap.lt_size q)) (Heap.get?_push_of_some _ q)
    have old2 : ∀ b o, s2.heap.get? b = some o → h3.get? b = some o := fun b o q => old b o (kp b o q)
    obtain ⟨its, rv, ⟨oT, hoT, hcT, nT, hdT⟩, hzT⟩ := I3.tuple hsq
    have hrd : Reads h3 (.ref t) (.tuple (b.map .int)) [] := PyProof.Rows.Reads.keeps old (tupU_reads (P := fun t b => H2 t = some (.tup (b.map V.int))) I3 (h' := h') (fun _ _ q => q) ⟨t, rfl, hsq, hHt⟩)
    refine key_turn (vs := its) (mg := X.mg) (mb := mb) hx hdb hbind (old _ _ hf3) ⟨c', oc, us, tq, rfl, old2 _ _ hoc, hdc, hvc⟩ (by have := hr.dp; show X.A.depth < recursionLimit; omega) (I2.nolimit.keeps old2) ((I2.mod.glob.keeps I2.bk).keeps old2) hml ((hb1.keeps I2.bk).keeps old2) ((hb2 "len" (by decide)).trans rfl) hrd (.inr ⟨oT, old _ _ hoT, hcT, nT, hdT⟩) (by rw [← rv.length, List.length_map]) (hln b hb)
  · rw [merge_sortK] at eo
    obtain ⟨xs, h1, h2⟩ := each_vals eo
    have hn : H2 h'.objs.size = none := I3.hok.fresh (Nat.le_refl _)
    have k2 : ∀ b o, h'.get? b = some o → h3.get? b = some o := fun b o q => kB b o (Nat.ne_of_lt (Heap.lt_size q)) (Heap.get?_push_of_some _ q)
    have hz : xs.length ≤ sizeLine := by
      rw [h2.length, (sortK_perm bs).length_eq]; omega
    have J : Inv X pins σ (upd H2 h'.objs.size (.lst xs)) { s2 with heap := h3, toks := tk3 } :=
      I3.laid (t' := tk3) (a := h'.objs.size) (o := .lst xs) (h' := h3) k2 (Nat.le_refl _) ⟨hz, _, cc, h1, hD⟩
    exact wpAny_pure ⟨_, rfl, .ref _, _, J, rfl, q xs _ h2 hn⟩
end
end DK

/-! dice: what is drawn -/
namespace DN
open PySem PySem.Spec PyProof.Rows L2 DL
section
variable {X : Cx}
def CPowW (i j : Int) : Prop := j ≥ 0 ∧ ¬(j == 0) = true ∧ ¬(i == 0 || i == 1) = true ∧ ¬(i == -1) = true ∧ ¬PySem.Builtin.Int.intTooBig (((PySem.Builtin.Int.intBits i : Nat) : Int) * j) = true
theorem op_powW : OpR X (binaryOp .Pow) (rI CPowW fun i j => .int (i ^ j.toNat)) := opI fun _ _ _ _ _ _ _ hc q => AutoIntOps.pow_4 hc.1 hc.2.1 hc.2.2.1 hc.2.2.2.1 hc.2.2.2.2 q
end
def DiceAt (H : Hp) (a : Addr) : Prop := ∃ l m c : Int, H a = some (.lst [.int l, .int m, .int c])
/-- all else stands -/
def Off (a : Addr) (H H' : Hp) : Prop := ∀ b, b ≠ a → H' b = H b
theorem Off.refl (a : Addr) (H : Hp) : Off a H H := fun _ _ => rfl
theorem Off.upd {a : Addr} {H H' : Hp} {o : HO} (h : Off a H H') : Off a H (L2.upd H' a o) := fun b hb => by rw [upd_ne hb]; exact h b hb
theorem Off.trans {a : Addr} {H H' H'' : Hp} (h : Off a H H') (k : Off a H' H'') : Off a H H'' := fun b hb => (k b hb).trans (h b hb)
def spRoll : Sp := fun vs H Q _ => ∃ (a : Addr) (n : Int), vs = [.ref a, .int n] ∧ DiceAt H a ∧ 0 < n ∧ n < 1073741824 ∧ ∀ (r : Int) (H' : Hp), 0 ≤ r → r < n → DiceAt H' a → Off a H H' → Q (.int r) H'
def spOne (K : PySem.W.Frag) : Sp := fun vs H Q _ => ∃ (a b : Addr) (xs : List V), vs = [.ref a, .ref b] ∧ DiceAt H a ∧ b ≠ a ∧ (SqL K H b xs ∨ SqT K H b xs) ∧ 0 < xs.length ∧ xs.length < 1073741824 ∧
  ∀ (i : Nat) (x : V) (H' : Hp), xs[i]? = some x → DiceAt H' a → Off a H H' → Q x H'
def spDice (K : PySem.W.Frag) : Sp := fun vs H Q _ => ∃ (b : Addr) (ns : List Int) (i : Int), vs = [.ref b, .int i] ∧ SqL K H b (ns.map V.int) ∧ 0 ≤ i ∧ i < 64 ∧
  ∀ (a : Addr) (H' : Hp), H a = none → DiceAt H' a → Off a H H' → Q (.ref a) H'

/-! readings -/
abbrev rMul : R2 := rI CMul fun i j => .int (i * j)
abbrev rMod : R2 := rI (fun _ j => 0 < j) fun i j => .int (i % j)
abbrev rDiv : R2 := rI CDiv fun i j => .int (i / j)
abbrev rAdd : R2 := rI0 fun i j => .int (i + j)
abbrev tAt (K : PySem.W.Frag) (i : Nat) (j : Int) : TE := tOp (rIx K) (tVar i) (tC (.int j))
abbrev sAt (i : Nat) (j : Int) (te : TE) : TS := tAsg te (gSub (tVar i) (tC (.int j)) rSetL)
def t_roll (K : PySem.W.Frag) : TS :=
  tSeq (tAsg (tCB rInt1 (tCons (tVar 1) tNil)) (gName 2)) <|
  tSeq (tIfS (tTest (tOp (rI0 fun i j => .bl (decide (j < i))) (tAt K 0 0) (tC (.int 0))))
    (tSeq (tAsg (tOp rMod (tAt K 0 0) (tVar 2)) (gName 3)) <| tSeq (sAt 0 0 (tOp rDiv (tAt K 0 0) (tVar 2))) <| tRet (tCB rInt1 (tCons (tVar 3) tNil))) tNext) <|
  tSeq (sAt 0 2 (tOp rAdd (tAt K 0 2) (tC (.int 1)))) <|
  tSeq (tAsg (tOp rMod (tOp rAdd (tAt K 0 1) (tOp rMul (tC (.int 1000381)) (tAt K 0 2))) (tC (.int 2305843009213693951))) (gName 4)) <|
  tSeq (tAsg (tOp rAdd (tOp rMul (tOp rMod (tOp rMul (tVar 4) (tVar 4)) (tC (.int 2305843009213693921))) (tVar 4)) (tOp rMul (tC (.int 9497)) (tAt K 0 2))) (gName 5)) <|
  tSeq (tAsg (tOp rMod (tVar 5) (tC (.int 2305843009213693907))) (gName 5)) <|
  tRet (tCB rInt1 (tCons (tOp rMod (tOp rDiv (tVar 5) (tC (.int 4096))) (tVar 2)) tNil))
theorem at3 {K : PySem.W.Frag} {H : Hp} {a : Addr} {l m c : Int} (h : H a = some (.lst [.int l, .int m, .int c])) : SqL K H a [.int l, .int m, .int c] := SqL.of h
theorem pure_roll {K : PySem.W.Frag} (vs : List V) (H : Hp) (Q : VK) (E : XK) (h : spRoll vs H Q E) :
    t_roll K { nx := fun _ H' => Q .non H', rt := Q } (start ["_law_dice_here", "_law_total", "_law_size", "_law_drawn", "_law_one", "_law_two"] vs) H := by
  obtain ⟨a, n, rfl, ⟨l, m, c, hd⟩, h0, h1, k⟩ := h
  refine ⟨_, rfl, .inl ⟨n, rfl, ?_⟩⟩
  refine ⟨_, rfl, .inl ⟨a, _, _, _, rfl, rfl, at3 hd, atI_nat (j := 0) rfl, _, _, rfl, rfl, _, rfl, ?_⟩⟩
  by_cases hl : 0 < l
  · refine Eq.mpr (if_pos (decide_eq_true hl)) ?_
    refine ⟨_, rfl, .inl ⟨a, _, _, _, rfl, rfl, at3 hd, atI_nat (j := 0) rfl, _, rfl, _, _, rfl, rfl, h0, ?_⟩⟩
    refine ⟨_, rfl, .inl ⟨a, _, _, _, rfl, rfl, at3 hd, atI_nat (j := 0) rfl, _, rfl, _, _, rfl, rfl, ⟨h0, h1⟩, _, rfl, a, _, _, 0, rfl, rfl, hd, rfl, ?_⟩⟩
    refine ⟨_, rfl, .inl ⟨_, rfl, ?_⟩⟩
    exact k _ _ (Int.emod_nonneg _ (by omega)) (Int.emod_lt_of_pos _ h0) ⟨_, _, _, upd_same⟩ (Off.refl _ _).upd
  · refine Eq.mpr (if_neg (by rw [decide_eq_false hl]; exact Bool.false_ne_true)) ?_
    refine ⟨_, rfl, .inl ⟨a, _, _, _, rfl, rfl, at3 hd, atI_nat (j := 2) rfl, _, _, rfl, rfl, _, rfl, a, _, _, 2, rfl, rfl, hd, rfl, ?_⟩⟩
    have h2 : upd H a (.lst ([V.int l, .int m, .int c].set 2 (.int (c + 1)))) a = some (.lst [.int l, .int m, .int (c + 1)]) := upd_same
    generalize hH : upd H a (.lst ([V.int l, .int m, .int c].set 2 (.int (c + 1)))) = H1 at h2
    have off : Off a H H1 := by rw [← hH]; exact (Off.refl _ _).upd
    have S1 := at3 (K := K) h2
    refine ⟨_, rfl, .inl ⟨a, _, _, _, rfl, rfl, S1, atI_nat (j := 1) rfl, _, rfl, .inl ⟨a, _, _, _, rfl, rfl, S1, atI_nat (j := 2) rfl, _, _, rfl, rfl, .inl ⟨by decide, by decide⟩, _, _, rfl, rfl, _, _, rfl, rfl, (show (0:Int) < 2305843009213693951 by decide), ?_⟩⟩⟩
    have b1 := Int.emod_nonneg (m + 1000381 * (c + 1)) (b := 2305843009213693951) (by decide)
    have b2 := Int.emod_lt_of_pos (m + 1000381 * (c + 1)) (b := 2305843009213693951) (by decide)
    have cm : ∀ j, CMul ((m + 1000381 * (c + 1)) % 2305843009213693951) j := fun j => .inl ⟨by omega, by omega⟩
    have cn : ∀ i : Int, CMul (i % 2305843009213693921) ((m + 1000381 * (c + 1)) % 2305843009213693951) := fun i => .inr ⟨by omega, by omega⟩
    refine ⟨_, rfl, _, rfl, _, _, rfl, rfl, cm _, _, _, rfl, rfl, (show (0:Int) < 2305843009213693921 by decide), ?_⟩
    refine ⟨_, rfl, _, _, rfl, rfl, cn _, _, rfl, .inl ⟨a, _, _, _, rfl, rfl, S1, atI_nat (j := 2) rfl, _, _, rfl, rfl, .inl ⟨by decide, by decide⟩, _, _, rfl, rfl, ?_⟩⟩
    refine ⟨_, rfl, _, _, rfl, rfl, (show (0:Int) < 2305843009213693907 by decide), ?_⟩
    refine ⟨_, rfl, _, _, rfl, rfl, ⟨by decide, by decide⟩, _, rfl, _, _, rfl, rfl, h0, .inl ⟨_, rfl, ?_⟩⟩
    exact k _ _ (Int.emod_nonneg _ (by omega)) (Int.emod_lt_of_pos _ h0) ⟨_, _, _, h2⟩ off
theorem pure_one {K : PySem.W.Frag} (vs : List V) (H : Hp) (Q : VK) (E : XK) (h : spOne K vs H Q E) :
    tRet (tOp (rIx K) (tVar 1) (tCall spRoll [] E0 (tCons (tVar 0) (tCons (tCB (rLenQ K) (tCons (tVar 1) tNil)) tNil)))) { nx := fun _ H' => Q .non H', rt := Q } (start ["_law_dice_here", "_law_items"] vs) H := by
  obtain ⟨a, b, xs, rfl, hd, hb, hx, h0, h1, k⟩ := h
  refine ⟨_, rfl, _, rfl, _, rfl, b, xs, rfl, hx, ?_⟩
  refine ⟨a, xs.length, rfl, hd, by omega, by omega, fun r H' r0 r1 d' off => ?_⟩
  obtain ⟨j, rfl⟩ := Int.eq_ofNat_of_zero_le r0
  have hj : j < xs.length := by omega
  have hg : xs[j]? = some xs[j] := by simp [hj]
  have hs : SqL K H' b xs ∨ SqT K H' b xs := by
    rcases hx with ((h | ⟨o, h⟩) | h) | ((h | ⟨o, h⟩) | h)
    · exact .inl (.inl (.inl (by rw [off b hb]; exact h)))
    · exact .inl (.inl (.inr ⟨o, by rw [off b hb]; exact h⟩))
    · exact .inl (.inr h)
    · exact .inr (.inl (.inl (by rw [off b hb]; exact h)))
    · exact .inr (.inl (.inr ⟨o, by rw [off b hb]; exact h⟩))
    · exact .inr (.inr h)
  rcases hs with hs | hs
  · exact .inl ⟨b, _, _, _, rfl, rfl, hs, atI_nat hg, k j _ H' hg d' off⟩
  · exact .inr (.inl ⟨b, _, _, _, rfl, rfl, hs, atI_nat hg, k j _ H' hg d' off⟩)
abbrev rPowW : R2 := rI CPowW fun i j => .int (i ^ j.toNat)
abbrev rDivW : R2 := rI CDivW fun i j => .int (i / j)
def rAbs : List V → Hp → VK → Prop := fun xs H Q => ∃ i, xs = [.int i] ∧ Q (.int (if i < 0 then -i else i)) H
theorem hAbs {X : Cx} : CallR X (.builtin "abs") rAbs := call_abs
abbrev tPow (i j : Int) : TE := tOp rPowW (tC (.int i)) (tC (.int j))
def t_dice (K : PySem.W.Frag) : TS :=
  tSeq (tAsg (tOp rAdd (tOp rMul (tC (.int 101)) (tVar 1)) (tC (.int 47))) (gName 2)) <|
  tSeq (tIfS (tTest (tOp (rI0 fun i j => .bl (decide (i < j))) (tVar 1) (tCB (rLenQ K) (tCons (tVar 0) tNil)))) (tAsg (tOp (rIx K) (tVar 0) (tVar 1)) (gName 2)) tNext) <|
  tSeq (tAsg (tOp rMod (tCB rInt1 (tCons (tCB rAbs (tCons (tVar 2) tNil)) tNil)) (tOp rPowW (tPow 10 60) (tC (.int 10)))) (gName 3)) <|
  tSeq (tAsg (tOp rDivW (tVar 3) (tPow 10 18)) (gName 4)) <|
  tSeq (tAsg (tOp rAdd (tOp rAdd (tOp rAdd (tOp rMul (tOp rMod (tVar 3) (tC (.int 2147482621))) (tC (.int 60497))) (tOp rMul (tC (.int 3541)) (tVar 1))) (tOp rMul (tC (.int 89)) (tCB rInt1 (tCons (tOp (rI0 fun i j => .bl (decide (i < j))) (tVar 2) (tC (.int 0))) tNil)))) (tC (.int 127))) (gName 5)) <|
  tRet (tLst (tCons (tVar 4) (tCons (tOp rMod (tVar 5) (tC (.int 2147482583))) (tCons (tC (.int 0)) tNil))))
theorem p60 : (10 : Int) ^ (60 : Int).toNat = 10 ^ 60 := rfl
theorem cpow1 (j : Int) (h : j = 60 ∨ j = 18) : CPowW 10 j := by rcases h with rfl | rfl <;> exact ⟨by decide, by decide, by decide, by decide, by decide +kernel⟩
theorem cpow2 : CPowW ((10 : Int) ^ (60 : Int).toNat) 10 := ⟨by decide, by decide +kernel, by decide +kernel, by decide +kernel, by decide +kernel⟩
theorem pos2 : (0 : Int) < ((10 : Int) ^ (60 : Int).toNat) ^ (10 : Int).toNat := by decide +kernel
theorem cdw : ∀ i, CDivW i ((10 : Int) ^ (18 : Int).toNat) := fun _ => ⟨by decide +kernel, by decide +kernel⟩
theorem pure_dice {K : PySem.W.Frag} (vs : List V) (H : Hp) (Q : VK) (E : XK) (h : spDice K vs H Q E) :
    t_dice K { nx := fun _ H' => Q .non H', rt := Q } (start ["_law_script", "_law_at", "_law_cell", "_law_great", "_law_left", "_law_mixed"] vs) H := by
  obtain ⟨b, ns, i, rfl, hs, h0, h1, k⟩ := h
  refine ⟨_, rfl, _, _, rfl, rfl, .inl ⟨by decide, by decide⟩, _, _, rfl, rfl, ?_⟩
  refine ⟨_, rfl, _, rfl, b, _, rfl, .inl hs, _, _, rfl, rfl, _, rfl, ?_⟩
  have key : ∀ z : Int, ∀ D' : Ends, D'.rt = Q → tSeq (tAsg (tOp rMod (tCB rInt1 (tCons (tCB rAbs (tCons (tVar 2) tNil)) tNil)) (tOp rPowW (tPow 10 60) (tC (.int 10)))) (gName 3)) (
      tSeq (tAsg (tOp rDivW (tVar 3) (tPow 10 18)) (gName 4)) <|
      tSeq (tAsg (tOp rAdd (tOp rAdd (tOp rAdd (tOp rMul (tOp rMod (tVar 3) (tC (.int 2147482621))) (tC (.int 60497))) (tOp rMul (tC (.int 3541)) (tVar 1))) (tOp rMul (tC (.int 89)) (tCB rInt1 (tCons (tOp (rI0 fun i j => .bl (decide (i < j))) (tVar 2) (tC (.int 0))) tNil)))) (tC (.int 127))) (gName 5)) <|
      tRet (tLst (tCons (tVar 4) (tCons (tOp rMod (tVar 5) (tC (.int 2147482583))) (tCons (tC (.int 0)) tNil))))) D' [some (.ref b), some (.int i), some (.int z), none, none, none] H := fun z D' hD => by
    refine ⟨_, rfl, _, rfl, .inl ⟨_, rfl, _, _, rfl, rfl, cpow1 _ (.inl rfl), _, _, rfl, rfl, cpow2, _, _, rfl, rfl, pos2, ?_⟩⟩
    refine ⟨_, rfl, _, _, rfl, rfl, cpow1 _ (.inr rfl), _, _, rfl, rfl, cdw _, ?_⟩
    refine ⟨_, rfl, _, _, rfl, rfl, (show (0:Int) < 2147482621 by decide), _, _, rfl, rfl, .inr ⟨by decide, by decide⟩, _, rfl, _, _, rfl, rfl, .inl ⟨by decide, by decide⟩, _, _, rfl, rfl, ?_⟩
    refine ⟨_, rfl, _, _, rfl, rfl, .inr ⟨_, rfl, _, _, rfl, rfl, .inl ⟨by decide, by decide⟩, _, _, rfl, rfl, _, _, rfl, rfl, ?_⟩⟩
    refine ⟨_, rfl, _, rfl, _, _, rfl, rfl, (show (0:Int) < 2147482583 by decide), (by show 3 ≤ sizeLine; decide), fun p hp => ?_⟩
    rw [hD]
    exact k p _ hp ⟨_, _, _, upd_same⟩ (Off.refl _ _).upd
  by_cases hl : i < ((ns.map V.int).length : Int)
  · refine Eq.mpr (if_pos (decide_eq_true hl)) ?_
    obtain ⟨j, rfl⟩ := Int.eq_ofNat_of_zero_le h0
    rw [List.length_map] at hl
    have hj : j < ns.length := by omega
    refine ⟨_, rfl, _, rfl, .inl ⟨b, _, _, _, rfl, rfl, hs, atI_nat (j := j) (v := .int ns[j]) (by rw [List.getElem?_map]; simp [hj]), ?_⟩⟩
    exact key _ _ rfl
  · refine Eq.mpr (if_neg (by rw [decide_eq_false hl]; exact Bool.false_ne_true)) ?_
    exact key _ _ rfl
end DN

/-! a state with dice: slot 0 is their address; what does not read slot 0 may be reckoned without it -/
namespace DN
open PySem PySem.Spec PyProof.Rows L2 DL

/-! ### readings that leave slot 0 alone -/
inductive F0 where
  | nx (ρ : DS) | bk (ρ : DS) | ct (ρ : DS) | rt (d : D)
def F0.at (s : SV) : F0 → Fl
  | .nx ρ => .nx (s :: ρ)
  | .bk ρ => .bk (s :: ρ)
  | .ct ρ => .ct (s :: ρ)
  | .rt d => .rt d
def Irr {α : Type} (m : M α) : Prop := ∀ ρ, ∃ R : Option α, ∀ s, m (s :: ρ) = R
def IrF (m : M Fl) : Prop := ∀ ρ, ∃ R : Option F0, ∀ s, m (s :: ρ) = R.map (F0.at s)
def IrS (st : DS → D → Option DS) : Prop := ∀ ρ d, ∃ R : Option DS, ∀ s, st (s :: ρ) d = R.map (s :: ·)
def IrSs (st : DS → List D → Option DS) : Prop := ∀ ρ d, ∃ R : Option DS, ∀ s, st (s :: ρ) d = R.map (s :: ·)
theorem Irr.at {α : Type} {m : M α} (h : Irr m) {ρ : DS} {v : Option α} (e : m (.unk :: ρ) = v) (s : SV) : m (s :: ρ) = v := by
  obtain ⟨R, hR⟩ := h ρ
  rw [hR] at e ⊢
  exact e
theorem IrF.nx {m : M Fl} (h : IrF m) {ρ ρ' : DS} {s0 : SV} (e : m (.unk :: ρ) = some (.nx (s0 :: ρ'))) (s : SV) : m (s :: ρ) = some (.nx (s :: ρ')) := by
  obtain ⟨R, hR⟩ := h ρ
  rw [hR] at e ⊢
  cases R with
  | none => cases e
  | some r =>
    cases r with
    | nx q =>
      have e : some (Fl.nx (.unk :: q)) = some (.nx (s0 :: ρ')) := e
      cases e; rfl
    | _ => cases e
theorem IrF.rt {m : M Fl} (h : IrF m) {ρ : DS} {d : D} (e : m (.unk :: ρ) = some (.rt d)) (s : SV) : m (s :: ρ) = some (.rt d) := by
  obtain ⟨R, hR⟩ := h ρ
  rw [hR] at e ⊢
  cases R with
  | none => cases e
  | some r =>
    cases r with
    | rt q =>
      have e : some (Fl.rt q) = some (.rt d) := e
      cases e; rfl
    | _ => cases e
section
variable {α β : Type}
theorem ir_bind {m : M α} {f : α → Option β} (h : Irr m) : Irr (fun δ => (m δ).bind f) := fun ρ => by
  obtain ⟨R, hR⟩ := h ρ
  exact ⟨R.bind f, fun s => by show (m (s :: ρ)).bind f = _; rw [hR]⟩
theorem ir_bind2 {m : M α} {n : α → M β} (h : Irr m) (k : ∀ a, Irr (n a)) : Irr (fun δ => (m δ).bind fun a => n a δ) := fun ρ => by
  obtain ⟨R, hR⟩ := h ρ
  cases R with
  | none => exact ⟨none, fun s => by show (m (s :: ρ)).bind _ = _; rw [hR]; rfl⟩
  | some a =>
    obtain ⟨R2, hR2⟩ := k a ρ
    exact ⟨R2, fun s => by show (m (s :: ρ)).bind _ = _; rw [hR]; exact hR2 s⟩
theorem ir_const (v : Option α) : Irr (fun _ => v) := fun _ => ⟨v, fun _ => rfl⟩
end
theorem ir_fro (i : Nat) : Irr (mFro (i + 1)) := fun ρ => ⟨_, fun s => by unfold mFro; rw [List.getElem?_cons_succ]⟩
theorem ir_any (i : Nat) : Irr (mAny (i + 1)) := fun ρ => ⟨_, fun s => by unfold mAny; rw [List.getElem?_cons_succ]⟩
theorem ir_c (d : D) : Irr (mC d) := ir_const _
theorem ir_nil : Irr mNil := ir_const _
theorem ir_cons {m : M D} {n : M (List D)} (h : Irr m) (k : Irr n) : Irr (mCons m n) := ir_bind2 (n := fun d δ => (n δ).map fun ds => d :: ds) h fun d ρ => by
  obtain ⟨R, hR⟩ := k ρ
  exact ⟨R.map (d :: ·), fun s => by show (n (s :: ρ)).map _ = _; rw [hR]⟩
theorem ir_tup {n : M (List D)} (h : Irr n) : Irr (mTup n) := ir_bind h
theorem ir_lst {n : M (List D)} (h : Irr n) : Irr (mLst n) := ir_bind h
theorem ir_m2 {f : D → D → Option D} {a b : M D} (h : Irr a) (k : Irr b) : Irr (m2 f a b) := ir_bind2 (n := fun x δ => (b δ).bind fun y => f x y) h fun _ => ir_bind k
theorem ir_m3 {f : D → D → D → Option D} {a b c : M D} (h : Irr a) (k : Irr b) (l : Irr c) : Irr (m3 f a b c) :=
  ir_bind2 (n := fun x δ => (b δ).bind fun y => (c δ).bind fun z => f x y z) h fun x => ir_bind2 (n := fun y δ => (c δ).bind fun z => f x y z) k fun _ => ir_bind l
theorem ir_call {n : Nat} {r : List D → Option D} {m : M (List D)} (h : Irr m) : Irr (mCall n r m) := ir_bind h
theorem ir_b {f : List D → Option D} {m : M (List D)} (h : Irr m) : Irr (mB f m) := ir_bind h
theorem ir_f {f : D → Option D} {m : M D} (h : Irr m) : Irr (mF f m) := ir_bind h
theorem ir_bool {m : M D} (h : Irr m) : Irr (mBool m) := ir_bind h
theorem ir_not {m : M Bool} (h : Irr m) : Irr (mNot m) := fun ρ => by
  obtain ⟨R, hR⟩ := h ρ
  exact ⟨R.map _, fun s => by show (m (s :: ρ)).map _ = _; rw [hR]⟩
theorem ir_or {m n : M Bool} (h : Irr m) (k : Irr n) : Irr (mOr m n) := ir_bind2 (n := fun (b : Bool) => (fun δ => if b then some true else n δ : M Bool)) h fun b => by
  cases b with
  | true => exact ir_const _
  | false => exact k
theorem ir_and {m n : M Bool} (h : Irr m) (k : Irr n) : Irr (mAnd m n) := ir_bind2 (n := fun (b : Bool) => (fun δ => if b then n δ else some false : M Bool)) h fun b => by
  cases b with
  | false => exact ir_const _
  | true => exact k
theorem ir_itl {m : M D} (h : Irr m) : Irr (mItL m) := ir_bind h
theorem ir_itt {m : M D} (h : Irr m) : Irr (mItT m) := ir_bind h
theorem ir_rng {m : M (List D)} (h : Irr m) : Irr (mRng m) := ir_bind h
theorem irs_n (i : Nat) : IrS (stN (i + 1)) := fun ρ d => ⟨some (ρ.set i (.fro d)), fun s => rfl⟩
theorem irss_nil : IrSs stNil := fun ρ ds => by
  cases ds with
  | nil => exact ⟨some ρ, fun s => rfl⟩
  | cons _ _ => exact ⟨none, fun s => rfl⟩
theorem irss_cons {a : DS → D → Option DS} {b : DS → List D → Option DS} (h : IrS a) (k : IrSs b) : IrSs (stCons a b) := fun ρ ds => by
  cases ds with
  | nil => exact ⟨none, fun s => rfl⟩
  | cons d ds =>
    obtain ⟨R, hR⟩ := h ρ d
    cases R with
    | none => exact ⟨none, fun s => by unfold stCons; simp only [hR]; rfl⟩
    | some ρ1 =>
      obtain ⟨R2, hR2⟩ := k ρ1 ds
      exact ⟨R2, fun s => by unfold stCons; simp only [hR, Option.map_some, Option.bind_some]; exact hR2 s⟩
theorem irs_tup {n : Nat} {b : DS → List D → Option DS} (k : IrSs b) : IrS (stTup n b) := fun ρ d => by
  cases q : tupD d with
  | none => exact ⟨none, fun s => by unfold stTup; rw [q]; rfl⟩
  | some ds =>
    by_cases hl : ds.length = n
    · obtain ⟨R, hR⟩ := k ρ ds
      exact ⟨R, fun s => by unfold stTup; rw [q]; show (if ds.length = n then b (s :: ρ) ds else none) = _; rw [if_pos hl, hR]⟩
    · exact ⟨none, fun s => by unfold stTup; rw [q]; show (if ds.length = n then b (s :: ρ) ds else none) = _; rw [if_neg hl]; rfl⟩
/-! statements -/
theorem if_next : IrF mNext := fun ρ => ⟨some (.nx ρ), fun _ => rfl⟩
theorem if_stop : IrF mStop := fun ρ => ⟨none, fun _ => rfl⟩
theorem if_ret {m : M D} (h : Irr m) : IrF (mRet m) := fun ρ => by
  obtain ⟨R, hR⟩ := h ρ
  exact ⟨R.map .rt, fun s => by show (m (s :: ρ)).map _ = _; rw [hR, Option.map_map]; rfl⟩
theorem if_seq {m n : M Fl} (h : IrF m) (k : IrF n) : IrF (mSeq m n) := fun ρ => by
  obtain ⟨R, hR⟩ := h ρ
  cases R with
  | none => exact ⟨none, fun s => by unfold mSeq; rw [hR]; rfl⟩
  | some r =>
    cases r with
    | nx ρ1 =>
      obtain ⟨R2, hR2⟩ := k ρ1
      exact ⟨R2, fun s => by unfold mSeq; rw [hR]; exact hR2 s⟩
    | bk ρ1 => exact ⟨some (.bk ρ1), fun s => by unfold mSeq; rw [hR]; rfl⟩
    | ct ρ1 => exact ⟨some (.ct ρ1), fun s => by unfold mSeq; rw [hR]; rfl⟩
    | rt d => exact ⟨some (.rt d), fun s => by unfold mSeq; rw [hR]; rfl⟩
theorem if_if {m : M Bool} {a b : M Fl} (h : Irr m) (ka : IrF a) (kb : IrF b) : IrF (mIf m a b) := fun ρ => by
  obtain ⟨R, hR⟩ := h ρ
  cases R with
  | none => exact ⟨none, fun s => by unfold mIf; rw [hR]; rfl⟩
  | some t =>
    cases t with
    | true =>
      obtain ⟨R2, hR2⟩ := ka ρ
      exact ⟨R2, fun s => by unfold mIf; rw [hR]; exact hR2 s⟩
    | false =>
      obtain ⟨R2, hR2⟩ := kb ρ
      exact ⟨R2, fun s => by unfold mIf; rw [hR]; exact hR2 s⟩
theorem if_asg {m : M D} {st : DS → D → Option DS} (h : Irr m) (k : IrS st) : IrF (mAsg m st) := fun ρ => by
  obtain ⟨R, hR⟩ := h ρ
  cases R with
  | none => exact ⟨none, fun s => by unfold mAsg; rw [hR]; rfl⟩
  | some d =>
    obtain ⟨R2, hR2⟩ := k ρ d
    cases R2 with
    | none => exact ⟨none, fun s => by unfold mAsg; rw [hR]; show (st (s :: ρ) d).map _ = _; rw [hR2]; rfl⟩
    | some ρ2 => exact ⟨some (.nx ρ2), fun s => by unfold mAsg; rw [hR]; show (st (s :: ρ) d).map _ = _; rw [hR2]; rfl⟩
theorem if_own (i : Nat) {m : M D} (h : Irr m) : IrF (mOwn (i + 1) m) := fun ρ => by
  obtain ⟨R, hR⟩ := h ρ
  cases R with
  | none => exact ⟨none, fun s => by unfold mOwn; rw [hR]; rfl⟩
  | some d =>
    cases q : isOwnD d with
    | true => exact ⟨some (.nx (ρ.set i (.own d))), fun s => by unfold mOwn; rw [hR]; show (if isOwnD d = true then _ else _) = _; rw [q]; rfl⟩
    | false => exact ⟨none, fun s => by unfold mOwn; rw [hR]; show (if isOwnD d = true then _ else _) = _; rw [q]; rfl⟩
theorem wipe_cons (s : SV) (ρ : DS) : ∀ vs : List Nat, wipeD (s :: ρ) (vs.map (· + 1)) = s :: wipeD ρ vs
  | [] => rfl
  | v :: vs => by
    show (wipeD (s :: ρ) (vs.map (· + 1))).set (v + 1) SV.unk = _
    rw [wipe_cons s ρ vs]; rfl
theorem loopC_irr {st : DS → D → Option DS} {t : M Bool} {m : M D} (hs : IrS st) (ht : Irr t) (hm : Irr m) (ρ : DS) : ∀ ds : List D, ∃ R : Option (List D), ∀ s, loopC st t m (s :: ρ) ds = R
  | [] => ⟨some [], fun _ => rfl⟩
  | d :: ds => by
    obtain ⟨R, hR⟩ := loopC_irr hs ht hm ρ ds
    obtain ⟨R1, h1⟩ := hs ρ d
    cases R1 with
    | none => exact ⟨none, fun s => by unfold loopC; rw [h1]; rfl⟩
    | some ρ1 =>
      obtain ⟨R2, h2⟩ := ht ρ1
      cases R2 with
      | none => exact ⟨none, fun s => by unfold loopC; rw [h1]; dsimp only [Option.map_some]; rw [h2]⟩
      | some b =>
        cases b with
        | false => exact ⟨R, fun s => by unfold loopC; rw [h1]; dsimp only [Option.map_some]; rw [h2]; exact hR s⟩
        | true =>
          obtain ⟨R3, h3⟩ := hm ρ1
          cases R3 with
          | none => exact ⟨none, fun s => by unfold loopC; rw [h1]; dsimp only [Option.map_some]; rw [h2]; dsimp only; rw [h3]⟩
          | some y => exact ⟨R.map (y :: ·), fun s => by unfold loopC; rw [h1]; dsimp only [Option.map_some]; rw [h2]; dsimp only; rw [h3]; dsimp only; rw [hR s]⟩
theorem ir_lc (vs : List Nat) {w : M (List D)} {st : DS → D → Option DS} {t : M Bool} {m : M D} (hw : Irr w) (hs : IrS st) (ht : Irr t) (hm : Irr m) : Irr (mLc (vs.map (· + 1)) w st t m) :=
  ir_bind2 (n := fun (ds : List D) => (fun δ => if decide (ds.length < sizeLine) then (loopC st t m (wipeD δ (vs.map (· + 1))) ds).map D.lst else none : M D)) hw fun ds ρ => by
    obtain ⟨R, hR⟩ := loopC_irr hs ht hm (wipeD ρ vs) ds
    exact ⟨if decide (ds.length < sizeLine) then R.map D.lst else none, fun s => by dsimp only; rw [wipe_cons, hR]⟩
theorem ir_lc1 (v : Nat) {w : M (List D)} {st : DS → D → Option DS} {t : M Bool} {m : M D} (hw : Irr w) (hs : IrS st) (ht : Irr t) (hm : Irr m) : Irr (mLc [v + 1] w st t m) := ir_lc [v] hw hs ht hm
theorem loopF_irr {st : DS → D → Option DS} {b : M Fl} (hs : IrS st) (hb : IrF b) : ∀ (ds : List D) (ρ : DS), ∃ R : Option F0, ∀ s, loopF st b ds (s :: ρ) = R.map (F0.at s)
  | [], ρ => ⟨some (.nx ρ), fun _ => rfl⟩
  | d :: ds, ρ => by
    obtain ⟨R1, h1⟩ := hs ρ d
    cases R1 with
    | none => exact ⟨none, fun s => by unfold loopF; rw [h1]; rfl⟩
    | some ρ1 =>
      obtain ⟨R2, h2⟩ := hb ρ1
      cases R2 with
      | none => exact ⟨none, fun s => by unfold loopF; rw [h1]; dsimp only [Option.map_some]; rw [h2]; rfl⟩
      | some f =>
        cases f with
        | nx ρ2 =>
          obtain ⟨R, hR⟩ := loopF_irr hs hb ds ρ2
          exact ⟨R, fun s => by unfold loopF; rw [h1]; dsimp only [Option.map_some]; rw [h2]; exact hR s⟩
        | ct ρ2 =>
          obtain ⟨R, hR⟩ := loopF_irr hs hb ds ρ2
          exact ⟨R, fun s => by unfold loopF; rw [h1]; dsimp only [Option.map_some]; rw [h2]; exact hR s⟩
        | bk ρ2 => exact ⟨some (.nx ρ2), fun s => by unfold loopF; rw [h1]; dsimp only [Option.map_some]; rw [h2]; rfl⟩
        | rt v => exact ⟨some (.rt v), fun s => by unfold loopF; rw [h1]; dsimp only [Option.map_some]; rw [h2]; rfl⟩
theorem if_for {m : M (List D)} {st : DS → D → Option DS} {b : M Fl} (h : Irr m) (hs : IrS st) (hb : IrF b) : IrF (mFor m st b) := fun ρ => by
  obtain ⟨R, hR⟩ := h ρ
  cases R with
  | none => exact ⟨none, fun s => by unfold mFor; rw [hR]; rfl⟩
  | some ds =>
    obtain ⟨R2, h2⟩ := loopF_irr hs hb ds ρ
    exact ⟨R2, fun s => by unfold mFor; rw [hR]; exact h2 s⟩
theorem if_put (i : Nat) {mk mv : M D} (hk : Irr mk) (hv : Irr mv) : IrF (mPut (i + 1) mk mv) := fun ρ => by
  obtain ⟨Rv, hv⟩ := hv ρ
  obtain ⟨Rk, hk⟩ := hk ρ
  cases Rv with
  | none => exact ⟨none, fun s => by unfold mPut; rw [hv]; rfl⟩
  | some y =>
    cases q : ownAt (i + 1) (SV.unk :: ρ) with
    | none => exact ⟨none, fun s => by unfold mPut; rw [hv]; have : ownAt (i + 1) (s :: ρ) = none := q; show ((ownAt (i + 1) (s :: ρ)).bind _) = _; rw [this]; rfl⟩
    | some d =>
      cases Rk with
      | none => exact ⟨none, fun s => by unfold mPut; rw [hv]; have : ownAt (i + 1) (s :: ρ) = some d := q; show ((ownAt (i + 1) (s :: ρ)).bind _) = _; rw [this, hk]; rfl⟩
      | some e =>
        refine ⟨if smallD d then (putD d e y).map fun d' => .nx (ρ.set i (.own d')) else none, fun s => ?_⟩
        unfold mPut
        rw [hv]
        have : ownAt (i + 1) (s :: ρ) = some d := q
        show ((ownAt (i + 1) (s :: ρ)).bind _) = _
        rw [this, hk]
        show (if smallD d = true then _ else _) = _
        cases smallD d with
        | true => simp only [if_true, Option.map_map]; rfl
        | false => rfl
theorem ir_pairs : ∀ {ms : List (M D × M D)}, (∀ p ∈ ms, Irr p.1 ∧ Irr p.2) → Irr (mPairs ms)
  | [], _ => ir_const _
  | (a, b) :: ms, h => by
    have h1 := (h (a, b) List.mem_cons_self)
    have h2 := ir_pairs (ms := ms) fun p hp => h p (List.mem_cons_of_mem _ hp)
    intro ρ
    obtain ⟨R1, e1⟩ := (show Irr a from h1.1) ρ
    obtain ⟨R2, e2⟩ := (show Irr b from h1.2) ρ
    obtain ⟨R3, e3⟩ := h2 ρ
    exact ⟨_, fun s => by unfold mPairs; rw [e1, e2, e3]⟩
theorem ir_disp {ms : List (M D × M D)} (h : ∀ p ∈ ms, Irr p.1 ∧ Irr p.2) : Irr (mDisp ms) := ir_bind (ir_pairs h)
end DN

namespace DN
open PySem PySem.Spec PyProof.Rows L2 DL
def dice (l m k : Int) : HO := .lst [.int l, .int m, .int k]
/-- the state of a def that holds dice at slot 0 -/
def DR (K : PySem.W.Frag) (F0 H0 : Hp) (a : Addr) (F H : Hp) (σ : L2.St) (ρ : DS) : Prop := F0 a = none ∧ ∃ l m k, SR K F0 (L2.upd H0 a (dice l m k)) F H σ (.fro (.cst a) :: ρ)
section
variable {K : PySem.W.Frag} {F0 H0 F H F' H' : Hp} {a : Addr} {σ : L2.St} {ρ ρ' : DS}
theorem DR.at (S : DR K F0 H0 a F H σ ρ) : DiceAt H a := by
  obtain ⟨_, l, m, k, S⟩ := S
  exact ⟨l, m, k, S.ext.h a _ upd_same⟩
theorem DR.fr (S : DR K F0 H0 a F H σ ρ) : F a = none := by
  obtain ⟨h0, l, m, k, S⟩ := S
  exact S.ext.n a (dice l m k) h0 upd_same rfl
theorem DR.s (S : DR K F0 H0 a F H σ ρ) : Same F H := by
  obtain ⟨h0, l, m, k, S⟩ := S
  exact S.sFH
theorem DR.slot (S : DR K F0 H0 a F H σ ρ) : σ[0]? = some (some (.ref a)) := by
  obtain ⟨h0, l, m, k, S⟩ := S
  obtain ⟨v, h1, h2⟩ := S.fro 0 (.cst a) rfl
  rw [rp_cst h2] at h1
  exact h1
theorem DR.fro (S : DR K F0 H0 a F H σ ρ) {i : Nat} {d : D} (h : ρ[i]? = some (.fro d)) : ∃ v, σ[i + 1]? = some (some v) ∧ Rp K F v d := by
  obtain ⟨h0, l, m, k, S⟩ := S
  exact S.fro (i + 1) d (by rw [List.getElem?_cons_succ]; exact h)
theorem DR.up (S : DR K F0 H0 a F H σ ρ) (x : Ext F H F' H') : DR K F0 H0 a F' H' σ ρ := by
  obtain ⟨h0, l, m, k, S⟩ := S
  exact ⟨h0, l, m, k, S.up x⟩
theorem DR.set (S : DR K F0 H0 a F H σ ρ) {i : Nat} {v : V} {d : D} (r : Rp K F v d) : DR K F0 H0 a F H (σ.set (i + 1) (some v)) (ρ.set i (.fro d)) := by
  obtain ⟨h0, l, m, k, S⟩ := S
  exact ⟨h0, l, m, k, S.set (i := i + 1) r⟩
theorem SR.forget {δ : DS} (S : SR K F0 H0 F H σ δ) (i : Nat) : SR K F0 H0 F H σ (δ.set i .unk) where
  ext := S.ext
  len := by rw [List.length_set]; exact S.len
  fro := fun j d h => by
    rcases set_get h with ⟨_, q⟩ | ⟨_, q⟩
    · cases q
    · exact S.fro j d q
  own := fun j d h => by
    rcases set_get h with ⟨_, q⟩ | ⟨_, q⟩
    · cases q
    · exact S.own j d q
  nt := fun j d h => by
    rcases set_get h with ⟨_, q⟩ | ⟨_, q⟩
    · cases q
    · exact S.nt j d q
  dis := fun j k b d e h1 h2 g1 g2 => by
    rcases set_get h1 with ⟨_, q1⟩ | ⟨_, q1⟩
    · cases q1
    rcases set_get h2 with ⟨_, q2⟩ | ⟨_, q2⟩
    · cases q2
    exact S.dis j k b d e q1 q2 g1 g2
theorem DR.forget (S : DR K F0 H0 a F H σ ρ) (i : Nat) : DR K F0 H0 a F H σ (ρ.set i .unk) := by
  obtain ⟨h0, l, m, k, S⟩ := S
  exact ⟨h0, l, m, k, SR.forget S (i + 1)⟩
/-- something is drawn: the dice change, all else grows -/
theorem DR.draw (S : DR K F0 H0 a F H σ ρ) (x : Ext F (hideH a H) F' (hideH a H')) (d : DiceAt H' a) (f : F' a = none) : DR K F0 H0 a F' H' σ ρ := by
  have hF := S.fr
  obtain ⟨h0, l, m, k, S⟩ := S
  obtain ⟨l', m', k', d⟩ := d
  have ne : ∀ {b : Addr}, b ≠ a → ∀ (H : Hp), hideH a H b = H b := fun hb H => by unfold hideH; rw [if_neg hb]
  refine ⟨h0, l', m', k', ⟨⟨fun b u e => x.f b u (S.ext.f b u e), fun b u e => ?_, fun b u e => ?_, fun b u e1 e2 e3 => ?_⟩, S.len, fun i d e => ?_, fun i d e => ?_, S.nt, S.dis⟩⟩
  · by_cases hb : b = a
    · subst hb; rw [upd_same] at e; cases e; exact d
    · rw [upd_ne hb] at e
      have := x.h b u (by rw [ne hb]; exact S.ext.h b u (by rw [upd_ne hb]; exact e))
      rw [ne hb] at this; exact this
  · have hb : b ≠ a := fun z => by subst z; rw [f] at e; cases e
    have := x.s b u e
    rw [ne hb] at this; exact this
  · by_cases hb : b = a
    · subst hb; exact f
    · rw [upd_ne hb] at e2
      have h1 := S.ext.n b u e1 (by rw [upd_ne hb]; exact e2) e3
      exact x.n b u h1 (by rw [ne hb]; exact S.ext.h b u (by rw [upd_ne hb]; exact e2)) e3
  · obtain ⟨v, h1, h2⟩ := S.fro i d e
    exact ⟨v, h1, h2.mono x.f⟩
  · obtain ⟨b, o, h1, h2, h3, h4, h5⟩ := S.own i d e
    have hb : b ≠ a := fun z => by subst z; rw [upd_same] at h4; cases h4
    rw [upd_ne hb] at h4
    refine ⟨b, o, h1, ?_, x.n b o h3 (by rw [ne hb]; exact h2) (tupO_own h5 (S.nt i d e)), by rw [upd_ne hb]; exact h4, h5.mono x.f⟩
    have := x.h b o (by rw [ne hb]; exact h2)
    rw [ne hb] at this; exact this
theorem ext_off (s : Same F H) (hF : F a = none) (o : Off a H H') : Ext F (hideH a H) F (hideH a H') := by
  have e : hideH a H' = hideH a H := by
    funext b
    by_cases hb : b = a
    · unfold hideH; rw [if_pos hb, if_pos hb]
    · unfold hideH; rw [if_neg hb, if_neg hb, o b hb]
  rw [e]
  refine Ext.refl fun b u h => ?_
  have hb : b ≠ a := fun z => by subst z; rw [hF] at h; cases h
  unfold hideH
  rw [if_neg hb]
  exact s b u h
theorem DR.off (S : DR K F0 H0 a F H σ ρ) (o : Off a H H') (d : DiceAt H' a) : DR K F0 H0 a F H' σ ρ := S.draw (ext_off S.s S.fr o) d S.fr
theorem DR.start {N : List Str} {ws : List V} {ds : List D} (s : Same F H) (hF : F a = none) (d : DiceAt H a) (r : RpL K F ws ds) : DR K F H a F H (L2.start N (.ref a :: ws)) (initD (N.length - 1) ds) := by
  obtain ⟨l, m, k, d⟩ := d
  refine ⟨hF, l, m, k, ?_⟩
  have e : L2.upd H a (dice l m k) = H := by
    funext b
    by_cases hb : b = a
    · subst hb; rw [upd_same]; exact d.symm
    · rw [upd_ne hb]
  rw [e]
  have h := sr_start (K := K) (N := N) (vs := .ref a :: ws) (ds := .cst a :: ds) s (.cons (.cst a) r)
  have e2 : initD N.length (.cst a :: ds) = .fro (.cst a) :: initD (N.length - 1) ds := by
    unfold initD
    rw [List.map_cons, List.cons_append, List.length_cons]
    congr 3
    omega
  rw [e2] at h
  exact h
/-- a piece that draws nothing -/
theorem DR.ex {t : TE} {m : M D} (hx : ∀ F0 H0, Ex ⟨K, F0, H0⟩ t m) (hi : Irr m) {d : D} (e : m (.unk :: ρ) = some d) (S : DR K F0 H0 a F H σ ρ) {Q : VK} (k : ∀ v F' H', DR K F0 H0 a F' H' σ ρ → Same F F' → Rp K F' v d → Q v H') : t σ H Q := by
  obtain ⟨h0, l, m', k', S⟩ := S
  exact hx _ _ _ σ F H Q d S (hi.at e _) fun v F' H' x r => k v F' H' ⟨h0, l, m', k', S.up x⟩ x.f r
theorem DR.sx {t : TS} {m : M Fl} (hx : ∀ F0 H0, Sx ⟨K, F0, H0⟩ t m) (hi : IrF m) {s0 : SV} (e : m (.unk :: ρ) = some (.nx (s0 :: ρ'))) (S : DR K F0 H0 a F H σ ρ) {En : Ends} (k : ∀ σ' F' H', DR K F0 H0 a F' H' σ' ρ' → Same F F' → En.nx σ' H') : t En σ H := by
  obtain ⟨h0, l, m', k', S⟩ := S
  exact hx _ _ _ σ F H En _ S (hi.nx e _) fun σ' F' H' S' s' => k σ' F' H' ⟨h0, l, m', k', S'⟩ s'
/-- .. and that is the end -/
theorem DR.rt {t : TS} {m : M Fl} (hx : ∀ F0 H0, Sx ⟨K, F0, H0⟩ t m) (hi : IrF m) {d : D} (e : m (.unk :: ρ) = some (.rt d)) (S : DR K F0 H0 a F H σ ρ) {En : Ends} (k : ∀ v F' H', Same (hideH a H0) H' → Rp K F' v d → En.rt v H') : t En σ H := by
  obtain ⟨h0, l, m', k', S⟩ := S
  refine hx _ _ _ σ F H En _ S (hi.rt e _) fun v F' H' x r => k v F' H' (fun b u z => ?_) r
  have hb : b ≠ a := fun z' => by subst z'; unfold hideH at z; rw [if_pos rfl] at z; cases z
  unfold hideH at z
  rw [if_neg hb] at z
  exact x.h b u ((upd_ne hb).trans z)
/-- the end of a def that draws -/
theorem DR.fin (S : DR K F0 H0 a F H σ ρ) : Ext F0 (hideH a H0) F (hideH a H) := by
  have hF := S.fr
  obtain ⟨h0, l, m, k, S⟩ := S
  have ne : ∀ {b : Addr}, b ≠ a → ∀ (H : Hp), hideH a H b = H b := fun hb H => by unfold hideH; rw [if_neg hb]
  refine ⟨S.ext.f, fun b u e => ?_, fun b u e => ?_, fun b u e1 e2 e3 => ?_⟩
  · have hb : b ≠ a := fun z => by subst z; unfold hideH at e; rw [if_pos rfl] at e; cases e
    rw [ne hb] at e ⊢
    exact S.ext.h b u (by rw [upd_ne hb]; exact e)
  · have hb : b ≠ a := fun z => by subst z; rw [hF] at e; cases e
    rw [ne hb]; exact S.ext.s b u e
  · have hb : b ≠ a := fun z => by subst z; unfold hideH at e2; rw [if_pos rfl] at e2; cases e2
    rw [ne hb] at e2
    exact S.ext.n b u e1 (by rw [upd_ne hb]; exact e2) e3
/-! draws -/
theorem DR.roll (S : DR K F0 H0 a F H σ ρ) {n : Int} (h0 : 0 < n) (h1 : n < 1073741824) {Q : VK} {E : XK} (k : ∀ (r : Int) H', 0 ≤ r → r < n → DR K F0 H0 a F H' σ ρ → Q (.int r) H') : spRoll [.ref a, .int n] H Q E :=
  ⟨a, n, rfl, S.at, h0, h1, fun r H' r0 r1 d o => k r H' r0 r1 (S.off o d)⟩
def itemsD : D → List D
  | .lst ds => ds
  | .tup ds => ds
  | _ => []
theorem DR.one (S : DR K F0 H0 a F H σ ρ) {v : V} {d : D} (r : Rp K F v d) (h0 : 0 < (itemsD d).length) (h1 : (itemsD d).length < 1073741824) {Q : VK} {E : XK} (k : ∀ x H' e, e ∈ itemsD d → DR K F0 H0 a F H' σ ρ → Rp K F x e → Q x H') : spOne K [.ref a, v] H Q E := by
  have main : ∀ (b : Addr) (xs : List V) (ds : List D), F b ≠ none → (SqL K H b xs ∨ SqT K H b xs) → RpL K F xs ds → itemsD d = ds → spOne K [.ref a, .ref b] H Q E := fun b xs ds hb hs rl hd => by
    refine ⟨a, b, xs, rfl, S.at, fun z => hb (by rw [z]; exact S.fr), hs, by rw [rl.length, ← hd]; exact h0, by rw [rl.length, ← hd]; exact h1, fun i x H' hx d' o => ?_⟩
    have hl : i < ds.length := by rw [← rl.length]; exact (List.getElem?_eq_some_iff.mp hx).1
    obtain ⟨w, h3, h4⟩ := rl.get (i := i) (d := ds[i]) (by simp [hl])
    rw [hx] at h3; cases h3
    exact k x H' ds[i] (by rw [hd]; exact List.getElem_mem hl) (S.off o d') h4
  cases d with
  | lst ds =>
    obtain ⟨b, xs, rfl, hb, rl⟩ := rp_lst r
    exact main b xs ds (by rw [hb]; simp) (.inl (SqL.of (S.s _ _ hb))) rl rfl
  | tup ds =>
    obtain ⟨b, xs, rfl, hb, rl⟩ := rp_tup r
    exact main b xs ds (by rw [hb]; simp) (.inr (SqT.of (S.s _ _ hb))) rl rfl
  | _ => exact absurd h0 (by simp [itemsD])
/-- a def that draws: R tells what may come -/
def spW (K : PySem.W.Frag) (Pre : List D → Prop) (R : List D → D → Prop) : Sp := fun vs H Q _ => ∃ (a : Addr) (ws : List V) (F : Hp) (ds : List D), vs = .ref a :: ws ∧ DiceAt H a ∧ Same F H ∧ F a = none ∧ RpL K F ws ds ∧ Pre ds ∧
  ∀ d v F' H', R ds d → Ext F (hideH a H) F' (hideH a H') → DiceAt H' a → F' a = none → Rp K F' v d → Q v H'
theorem DR.w {Pre : List D → Prop} {R : List D → D → Prop} (S : DR K F0 H0 a F H σ ρ) {ws : List V} {ds : List D} (r : RpL K F ws ds) (p : Pre ds) {Q : VK} {E : XK} (k : ∀ d v F' H', R ds d → DR K F0 H0 a F' H' σ ρ → Same F F' → Rp K F' v d → Q v H') : spW K Pre R (.ref a :: ws) H Q E :=
  ⟨a, ws, F, ds, rfl, S.at, S.s, S.fr, r, p, fun d v F' H' hr x da fa rv => k d v F' H' hr (S.draw x da fa) x.f rv⟩
end
end DN

/-! equality of values, by the kernel -/
namespace DN
open PySem PySem.Spec L2 DL
mutual
def eqb : D → D → Bool
  | .non, .non => true
  | .bl a, .bl b => a == b
  | .int a, .int b => decide (a = b)
  | .str a, .str b => decide (a = b)
  | .ty a, .ty b => decide (a = b)
  | .cst a, .cst b => Nat.beq a b
  | .tup a, .tup b => eqbs a b
  | .ktup a, .ktup b => eqbs a b
  | .ftup a, .ftup b => eqbs a b
  | .lst a, .lst b => eqbs a b
  | .dct t a c, .dct u b d => (t == u) && eqbs a b && eqbs c d
  | .ins C a c, .ins E b d => Nat.beq C E && decide (a = b) && eqbs c d
  | _, _ => false
def eqbs : List D → List D → Bool
  | [], [] => true
  | a :: as, b :: bs => eqb a b && eqbs as bs
  | _, _ => false
end
mutual
theorem eqb_ok : ∀ {d e : D}, eqb d e = true → d = e
  | .non, e, h => by cases e <;> first | rfl | (simp [eqb] at h)
  | .bl a, e, h => by cases e <;> simp [eqb] at h; rw [h]
  | .int a, e, h => by cases e <;> simp [eqb] at h; rw [h]
  | .str a, e, h => by cases e <;> simp [eqb] at h; rw [h]
  | .ty a, e, h => by cases e <;> simp [eqb] at h; rw [h]
  | .cst a, e, h => by cases e <;> simp [eqb] at h; rw [h]
  | .tup a, e, h => by cases e <;> simp [eqb] at h; rw [eqbs_ok h]
  | .ktup a, e, h => by cases e <;> simp [eqb] at h; rw [eqbs_ok h]
  | .ftup a, e, h => by cases e <;> simp [eqb] at h; rw [eqbs_ok h]
  | .lst a, e, h => by cases e <;> simp [eqb] at h; rw [eqbs_ok h]
  | .dct t a c, e, h => by
    cases e <;> simp [eqb] at h
    rw [h.1.1, eqbs_ok h.1.2, eqbs_ok h.2]
  | .ins t a c, e, h => by
    cases e <;> simp [eqb] at h
    rw [h.1.1, h.1.2, eqbs_ok h.2]
theorem eqbs_ok : ∀ {d e : List D}, eqbs d e = true → d = e
  | [], e, h => by cases e <;> first | rfl | (simp [eqbs] at h)
  | a :: as, e, h => by
    cases e <;> simp [eqbs] at h
    rw [eqb_ok h.1, eqbs_ok h.2]
end
def oeq (a : Option D) (b : D) : Bool := match a with
  | some x => eqb x b
  | none => false
theorem oeq_ok {a : Option D} {b : D} (h : oeq a b = true) : a = some b := by
  cases a with
  | none => cases h
  | some x => rw [eqb_ok (show eqb x b = true from h)]
def eqsv : SV → SV → Bool
  | .unk, .unk => true
  | .fro a, .fro b => eqb a b
  | .own a, .own b => eqb a b
  | _, _ => false
theorem eqsv_ok {a b : SV} (h : eqsv a b = true) : a = b := by
  cases a <;> cases b <;> first
    | rfl
    | (rw [eqb_ok h])
    | cases h
def eqds : DS → DS → Bool
  | [], [] => true
  | a :: as, b :: bs => eqsv a b && eqds as bs
  | _, _ => false
theorem eqds_ok : ∀ {a b : DS}, eqds a b = true → a = b
  | [], [], _ => rfl
  | [], _ :: _, h => by cases h
  | _ :: _, [], h => by cases h
  | a :: as, b :: bs, h => by
    have h : (eqsv a b && eqds as bs) = true := h
    rw [Bool.and_eq_true] at h
    rw [eqsv_ok h.1, eqds_ok h.2]
def nxeq (a : Option Fl) (b : DS) : Bool := match a with
  | some (.nx x) => eqds x b
  | _ => false
theorem nxeq_ok {a : Option Fl} {b : DS} (h : nxeq a b = true) : a = some (.nx b) := by
  unfold nxeq at h
  split at h
  · rw [eqds_ok h]
  · cases h
end DN

/-! defs that make lambdas: tables of code objects grow -/
namespace DZ
open PySem PySem.Spec PyProof.Rows L2 LamX DL DN DK
theorem tabs_tbl {T : List (Addr × Str)} {H : Hp} (t : Tabs T H) {p : Addr × Str} (h : p ∈ T) : ∃ ps, H p.1 = some (.tbl ps) := by
  obtain ⟨ps, h1, _⟩ := t p h
  exact ⟨ps, h1⟩
/-! the frozen part without tables -/
def isG : HO → Bool
  | .tbl _ => true
  | .ext _ => true
  | _ => false
def noT (F : Hp) : Hp := fun b => match F b with
  | some o => if isG o then none else some o
  | none => none
def NoTbl (F : Hp) : Prop := ∀ b o, F b = some o → isG o = false
theorem g_tbl {o : HO} (h : isG o = false) : ∀ ps, o ≠ .tbl ps := fun ps z => by subst z; cases h
section
variable {K : PySem.W.Frag} {F F' H H' F1 H1 : Hp}
theorem noT_some {b : Addr} {o : HO} (h : noT F b = some o) : F b = some o ∧ isG o = false := by
  unfold noT at h
  split at h
  · split at h
    · cases h
    · rename_i q1 q2
      cases h
      exact ⟨q1, by simpa using q2⟩
  · cases h
theorem noT_of {b : Addr} {o : HO} (h : F b = some o) (n : isG o = false) : noT F b = some o := by
  unfold noT
  rw [h]
  dsimp only
  rw [n]
  rfl
theorem noT_no : NoTbl (noT F) := fun b o h => (noT_some h).2
theorem noT_none {b : Addr} (h : F b = none) : noT F b = none := by
  cases q : noT F b with
  | none => rfl
  | some o => rw [(noT_some q).1] at h; cases h
theorem same_noT (s : Same F H) : Same (noT F) H := fun b o h => s b o (noT_some h).1
theorem NoTbl.same (n : NoTbl F) (s : Same F F') : Same F (noT F') := fun b o h => noT_of (s b o h) (n b o h)
theorem rpO_ntbl {o : HO} {d : D} (r : RpO K F o d) : isG o = false := by cases r <;> rfl
mutual
theorem Rp.noT : ∀ {v : V} {d : D}, Rp K F v d → Rp K (DZ.noT F) v d
  | _, _, .non => .non
  | _, _, .bl b => .bl b
  | _, _, .int b => .int b
  | _, _, .str b => .str b
  | _, _, .ty b => .ty b
  | _, _, .cst b => .cst b
  | _, _, .tupK h r => .tupK h (RpL.noT r)
  | _, _, .obj e r => .obj (noT_of e (rpO_ntbl r)) (RpO.noT r)
theorem RpL.noT : ∀ {v : List V} {d : List D}, RpL K F v d → RpL K (DZ.noT F) v d
  | _, _, .nil => .nil
  | _, _, .cons r t => .cons (Rp.noT r) (RpL.noT t)
theorem RpO.noT : ∀ {o : HO} {d : D}, RpO K F o d → RpO K (DZ.noT F) o d
  | _, _, .tup r => .tup (RpL.noT r)
  | _, _, .ftup e1 e2 r => .ftup e1 e2 (RpL.noT r)
  | _, _, .lst r => .lst (RpL.noT r)
  | _, _, .dK e r => .dK e (RpL.noT r)
  | _, _, .dT e r => .dT e (RpL.noT r)
  | _, _, .ins e r => .ins e (RpL.noT r)
end
theorem ext_noT (n : NoTbl F) (x : Ext F H F1 H1) : Ext F H (noT F1) H1 :=
  ⟨n.same x.f, x.h, same_noT x.s, fun b o e1 e2 e3 => noT_none (x.n b o e1 e2 e3)⟩
end
theorem same_into {F H : Hp} (n : NoTbl F) (s : Same F H) : Same F (noT H) := fun b o h => noT_of (s b o h) (n b o h)
/-! ### a def that makes lambdas -/
def spT (K : PySem.W.Frag) (T : List (Addr × Str)) (n : Nat) (r : List D → Option D) : Sp := fun vs H Q _ => ∃ (F : Hp) (ds : List D) (d : D), Same F H ∧ NoTbl F ∧ Tabs T H ∧ RpL K F vs ds ∧ ds.length = n ∧ r ds = some d ∧
  ∀ v F' H', Ext F (noT H) F' (noT H') → Tabs T H' → Rp K F' v d → Q v H'
theorem spT_len {K : PySem.W.Frag} {T : List (Addr × Str)} {n : Nat} {r : List D → Option D} {vs : List V} {H : Hp} {Q : VK} {E : XK} (h : spT K T n r vs H Q E) : vs.length = n := by
  obtain ⟨F, ds, d, _, _, _, rl, hl, _⟩ := h
  rw [rl.length]; exact hl
def lenOk : List (List Int) → Bool
  | [] => true
  | b :: bs => lenB b (List.replicate 40 0) && lenOk bs
theorem lenOk_ok : ∀ {bs : List (List Int)}, lenOk bs = true → ∀ b ∈ bs, b.length ≤ sizeLine
  | [], _, _, h => nomatch h
  | b :: bs, h, c, hc => by
    have h : (lenB b (List.replicate 40 0) && lenOk bs) = true := h
    rw [Bool.and_eq_true] at h
    rcases List.mem_cons.mp hc with rfl | hc
    · have := h.1
      rw [lenB_iff, decide_eq_true_eq, List.length_replicate] at this
      exact Nat.le_trans this (by decide)
    · exact lenOk_ok h.2 c hc
def fSortedTK (d : D) : Option D := match d with
  | .dct true ks _ => (zsD ks).bind fun bs => if lenOk bs then some (.lst ((sortK bs).map tupI)) else none
  | _ => none
/-- the sort at the end of such a def -/
theorem sortK_run {K : PySem.W.Frag} {T : List (Addr × Str)} {F0 H0 F H : Hp} (x : Ext F0 H0 F H) (n0 : NoTbl F0) (t0 : Tabs T H0) {v : V} {d z : D} (rb : RB K F H v d) (e : fSortedTK d = some z) {Q : VK}
    (k : ∀ a o F' H', Ext F0 (noT H0) F' (noT H') → Tabs T H' → H' a = some o → F' a = none → noT H0 a = none → RpO K F' o z → Q (.ref a) H') : kSorted K T Q [v] H := by
  unfold fSortedTK at e
  split at e
  · obtain ⟨bs, h2, h3⟩ := Option.bind_eq_some_iff.mp e
    split at h3
    · rename_i hl
      cases h3
      obtain ⟨a, kvs, rfl, e1, e2, rl⟩ := rb.dT x.s
      subst e2
      obtain ⟨q1, q2⟩ := zs_keys h2
      refine ⟨a, kvs, bs, rfl, e1, q1, q2, lenOk_ok hl, t0.ext x.h, fun H2 eN T2 xs p hy hp => ?_⟩
      have x1 : Ext F0 H0 (noT F) H := ext_noT n0 x
      have s2 : Same (noT F) H2 := fun b o q => eN b o (x1.s b o q) (g_tbl (noT_some q).2)
      obtain ⟨F3, x3, r3⟩ := freeze_all s2 hy
      have hF3p : F3 p = none := none_of x3.s hp
      have nt : ∀ b o, noT H0 b = some o → noT H2 b = some o := fun b o q => by
        obtain ⟨q1, q2⟩ := noT_some q
        exact noT_of (eN b o (x.h b o q1) (g_tbl q2)) q2
      have pn : noT H0 p = none := by
        cases q : noT H0 p with
        | none => rfl
        | some o =>
          have := (noT_some (nt p o q)).1
          rw [hp] at this; cases this
      have x4 : Ext F0 (noT H0) (noT F3) (noT (upd H2 p (.lst xs))) := by
        refine ⟨fun b o q => noT_of (x3.f b o (x1.f b o q)) (n0 b o q), fun b o q => ?_, fun b o q => ?_, fun b o q1 q2 q3 => ?_⟩
        · have := nt b o q
          obtain ⟨w1, w2⟩ := noT_some this
          refine noT_of ?_ w2
          rw [upd_ne (fun z => by subst z; rw [hp] at w1; cases w1)]
          exact w1
        · obtain ⟨w1, w2⟩ := noT_some q
          refine noT_of ?_ w2
          rw [upd_ne (fun z => by subst z; rw [hF3p] at w1; cases w1)]
          exact x3.s b o w1
        · refine noT_none (x3.n b o ?_ (noT_some (nt b o q2)).1 q3)
          exact x1.n b o q1 (noT_some q2).1 q3
      refine k p (.lst xs) (noT F3) (upd H2 p (.lst xs)) x4 ?_ upd_same (noT_none hF3p) pn (.lst (RpL.noT r3))
      intro p' hp'
      obtain ⟨ps, g1, g2, g3⟩ := T2 p' hp'
      refine ⟨ps, by rw [upd_ne (fun z => by rw [z, hp] at g1; cases g1)]; exact g1, g2, fun pos cv hc => ?_⟩
      obtain ⟨c, w1, w2⟩ := g3 pos cv hc
      exact ⟨c, w1, by rw [upd_ne (fun z => by rw [z, hp] at w2; cases w2)]; exact w2⟩
    · cases h3
  · cases e
/-- .. frozen -/
theorem sortK_fro {K : PySem.W.Frag} {T : List (Addr × Str)} {F0 H0 F H : Hp} (x : Ext F0 H0 F H) (n0 : NoTbl F0) (t0 : Tabs T H0) {v : V} {d z : D} (rb : RB K F H v d) (e : fSortedTK d = some z) {Q : VK}
    (k : ∀ v F' H', Ext F0 (noT H0) F' (noT H') → Tabs T H' → Same F' H' → Rp K F' v z → Q v H') : kSorted K T Q [v] H :=
  sortK_run x n0 t0 rb e fun a o F' H' x1 t1 ha hf hn r => by
    have x2 := x1.freeze hn (noT_of ha (rpO_ntbl r)) hf
    exact k _ _ _ x2 t1 (fun b o q => (noT_some (x2.s b o q)).1) (.obj upd_same (RpO.mono (same_upd hf) r))
def rT (N : Nat) (m : M Fl) (i : Nat) (wrap : D → Option D) (ds : List D) : Option D := match m (initD N ds) with
  | some (.nx δ) => (mAny i δ).bind fun d => (fSortedTK d).bind wrap
  | _ => none
theorem bx_any {K : PySem.W.Frag} {F0 H0 F H : Hp} {σ : L2.St} {δ : DS} {i : Nat} {d : D} (S : SR K F0 H0 F H σ δ) (e : mAny i δ = some d) : ∃ v, σ[i]? = some (some v) ∧ RB K F H v d := by
  unfold mAny at e
  split at e
  · rename_i d' h; cases e
    obtain ⟨v, h1, h2⟩ := S.fro i _ h
    exact ⟨v, h1, .inl h2⟩
  · rename_i d' h; cases e
    obtain ⟨a, o, h1, h2, h3, h4, h5⟩ := S.own i _ h
    exact ⟨_, h1, .inr ⟨a, o, rfl, h2, h5⟩⟩
  · cases e
/-- return sorted(x, key=..) -/
theorem tdef_end {t0 : TS} {m0 : M Fl} {i n : Nat} {T : List (Addr × Str)} {K : PySem.W.Frag} {N : List Str} {vs : List V} {H : Hp} {Q : VK} {E : XK} (h : spT K T n (rT N.length m0 i some) vs H Q E) (sx : ∀ F0 H0, Sx ⟨K, F0, H0⟩ t0 m0) :
    tSeq t0 (tRet (tSortK K T (tVar i))) { nx := fun _ H' => Q .non H', rt := Q } (L2.start N vs) H := by
  obtain ⟨F, ds, d, s, nF, hT, rl, hl, e, k⟩ := h
  unfold rT at e
  split at e
  · rename_i δ q
    obtain ⟨d1, e1, e2⟩ := Option.bind_eq_some_iff.mp e
    obtain ⟨z, e3, e4⟩ := Option.bind_eq_some_iff.mp e2
    cases e4
    refine sx F H (initD N.length ds) _ F H _ _ (sr_start s rl) q ?_
    intro σ' F' H' S' s'
    obtain ⟨v, h1, rb⟩ := bx_any S' e1
    exact ⟨v, h1, sortK_fro S'.ext nF hT rb e3 fun v F2 H2 x2 t2 s2 r2 => k v F2 H2 x2 t2 r2⟩
  · cases e
/-- return tuple(sorted(x, key=..)) -/
theorem tdef_endT {t0 : TS} {m0 : M Fl} {i n : Nat} {T : List (Addr × Str)} {K : PySem.W.Frag} {N : List Str} {vs : List V} {H : Hp} {Q : VK} {E : XK} (h : spT K T n (rT N.length m0 i fun d => (lstD d).map D.tup) vs H Q E) (sx : ∀ F0 H0, Sx ⟨K, F0, H0⟩ t0 m0) :
    tSeq t0 (tRet (tCB (rTupQ K) (tCons (tSortK K T (tVar i)) tNil))) { nx := fun _ H' => Q .non H', rt := Q } (L2.start N vs) H := by
  obtain ⟨F, ds, d, s, nF, hT, rl, hl, e, k⟩ := h
  unfold rT at e
  split at e
  · rename_i δ q
    obtain ⟨d1, e1, e2⟩ := Option.bind_eq_some_iff.mp e
    obtain ⟨z, e3, e4⟩ := Option.bind_eq_some_iff.mp e2
    obtain ⟨es, e5, rfl⟩ := Option.map_eq_some_iff.mp e4
    obtain rfl := lstD_ok e5
    refine sx F H (initD N.length ds) _ F H _ _ (sr_start s rl) q ?_
    intro σ' F' H' S' s'
    obtain ⟨v, h1, rb⟩ := bx_any S' e1
    refine ⟨v, h1, sortK_fro (Q := fun x H1 => rTupQ K [x] H1 Q) S'.ext nF hT rb e3 fun v F2 H2 x2 t2 s2 r2 => ?_⟩
    obtain ⟨a, xs, rfl, ha, ra⟩ := rp_lst r2
    refine ⟨a, xs, rfl, .inl ⟨SqL.of (s2 _ _ ha), fun p hp => ?_⟩⟩
    have hn : noT H2 p = none := noT_none hp
    have x3 : Ext F2 (noT H2) (upd F2 p (.tup xs)) (upd (noT H2) p (.tup xs)) := Ext.laid x2.s hn
    have e6 : upd (noT H2) p (.tup xs) = noT (upd H2 p (.tup xs)) := by
      funext b
      by_cases hb : b = p
      · subst hb
        rw [upd_same]
        exact (noT_of upd_same rfl).symm
      · rw [upd_ne hb]
        unfold noT
        rw [upd_ne hb]
    rw [e6] at x3
    refine k _ _ _ (x2.trans x3) ?_ (.obj upd_same (.tup (ra.mono x3.f)))
    exact t2.ext fun b o q => by rw [upd_ne (fun z => by subst z; rw [hp] at q; cases q)]; exact q
  · cases e
end DZ

/-! a state with dice and tables -/
namespace DZ
open PySem PySem.Spec PyProof.Rows L2 LamX DL DN DK
/-- what stood in H0, but dice at a and tables, stands in H -/
def Stays (a : Addr) (H0 H : Hp) : Prop := ∀ b o, b ≠ a → noT H0 b = some o → noT H b = some o
theorem Stays.refl {a : Addr} {H : Hp} : Stays a H H := fun _ _ _ h => h
theorem Stays.trans {a : Addr} {H H1 H2 : Hp} (x : Stays a H H1) (y : Stays a H1 H2) : Stays a H H2 := fun b o hb h => y b o hb (x b o hb h)
theorem Stays.of {a : Addr} {H H1 : Hp} (s : Same H H1) : Stays a H H1 := fun b o _ h => noT_of (s b o (noT_some h).1) (noT_some h).2
def ZR (K : PySem.W.Frag) (T : List (Addr × Str)) (a : Addr) (H0 F H : Hp) (σ : L2.St) (ρ : DS) : Prop := ∃ H0', Tabs T H0' ∧ DiceAt H0' a ∧ Stays a H0 H0' ∧ SR K (fun _ => none) H0' F H σ (.fro (.cst a) :: ρ)
section
variable {K : PySem.W.Frag} {T : List (Addr × Str)} {a : Addr} {H0 F H F' H' : Hp} {σ : L2.St} {ρ ρ' : DS}
theorem ZR.at (S : ZR K T a H0 F H σ ρ) : DiceAt H a := by
  obtain ⟨H1, _, ⟨l, m, c, h⟩, _, S⟩ := S
  exact ⟨l, m, c, S.ext.h _ _ h⟩
theorem ZR.tabs (S : ZR K T a H0 F H σ ρ) : Tabs T H := by
  obtain ⟨H1, t, _, _, S⟩ := S
  exact t.ext S.ext.h
theorem ZR.s (S : ZR K T a H0 F H σ ρ) : Same F H := by
  obtain ⟨H1, _, _, _, S⟩ := S
  exact S.sFH
theorem ZR.fr (S : ZR K T a H0 F H σ ρ) : F a = none := by
  obtain ⟨H1, _, ⟨l, m, c, h⟩, _, S⟩ := S
  exact S.ext.n _ _ rfl h rfl
theorem ZR.stays (S : ZR K T a H0 F H σ ρ) : Stays a H0 H := by
  obtain ⟨H1, _, _, y, S⟩ := S
  exact y.trans (Stays.of S.ext.h)
theorem ZR.slot (S : ZR K T a H0 F H σ ρ) : σ[0]? = some (some (.ref a)) := by
  obtain ⟨H1, _, _, _, S⟩ := S
  obtain ⟨v, h1, h2⟩ := S.fro 0 (.cst a) rfl
  rw [rp_cst h2] at h1
  exact h1
theorem ZR.fro (S : ZR K T a H0 F H σ ρ) {i : Nat} {d : D} (h : ρ[i]? = some (.fro d)) : ∃ v, σ[i + 1]? = some (some v) ∧ Rp K F v d := by
  obtain ⟨H1, _, _, _, S⟩ := S
  exact S.fro (i + 1) d (by rw [List.getElem?_cons_succ]; exact h)
theorem ZR.up (S : ZR K T a H0 F H σ ρ) (x : Ext F H F' H') : ZR K T a H0 F' H' σ ρ := by
  obtain ⟨H1, t, d, y, S⟩ := S
  exact ⟨H1, t, d, y, S.up x⟩
theorem ZR.set (S : ZR K T a H0 F H σ ρ) {i : Nat} {v : V} {d : D} (r : Rp K F v d) : ZR K T a H0 F H (σ.set (i + 1) (some v)) (ρ.set i (.fro d)) := by
  obtain ⟨H1, t, d, y, S⟩ := S
  exact ⟨H1, t, d, y, S.set (i := i + 1) r⟩
theorem ZR.forget (S : ZR K T a H0 F H σ ρ) (i : Nat) : ZR K T a H0 F H σ (ρ.set i .unk) := by
  obtain ⟨H1, t, d, y, S⟩ := S
  exact ⟨H1, t, d, y, SR.forget S (i + 1)⟩
/-- the frozen part without tables -/
theorem ZR.cut (S : ZR K T a H0 F H σ ρ) : ZR K T a H0 (noT F) H σ ρ := by
  obtain ⟨H1, t, d, y, S⟩ := S
  refine ⟨H1, t, d, y, ⟨⟨fun _ _ e => (by cases e), S.ext.h, same_noT S.ext.s, fun b o e1 e2 e3 => noT_none (S.ext.n b o e1 e2 e3)⟩, S.len, fun i d e => ?_, fun i d e => ?_, S.nt, S.dis⟩⟩
  · obtain ⟨v, h1, h2⟩ := S.fro i d e
    exact ⟨v, h1, Rp.noT h2⟩
  · obtain ⟨b, o, h1, h2, h3, h4, h5⟩ := S.own i d e
    exact ⟨b, o, h1, h2, noT_none h3, h4, RpO.noT h5⟩
/-- something is drawn, or a lambda made -/
theorem ZR.move (S : ZR K T a H0 F H σ ρ) (x : Ext F (hideH a (noT H)) F' (hideH a (noT H'))) (d : DiceAt H' a) (t : Tabs T H') : ZR K T a H0 F' H' σ ρ := by
  obtain ⟨H1, t1, d1, y, S⟩ := S
  have hid : ∀ {b : Addr} {H : Hp} {o : HO}, hideH a (noT H) b = some o → b ≠ a ∧ H b = some o ∧ isG o = false := fun h => by
    obtain ⟨h1, h2⟩ := hide_ne h
    exact ⟨h1, noT_some h2⟩
  have keep : ∀ b o, b ≠ a → noT H1 b = some o → H' b = some o := fun b o hb h => by
    obtain ⟨h1, h2⟩ := noT_some h
    exact (hid (x.h b o (hide_of hb (noT_of (S.ext.h b o h1) h2)))).2.1
  have hFa : F' a = none := by
    cases q : F' a with
    | none => rfl
    | some o => exact absurd rfl (hid (x.s a o q)).1
  have hFg : ∀ b o, H' b = some o → isG o = true → F' b = none := fun b o h g => by
    cases q : F' b with
    | none => rfl
    | some u =>
      obtain ⟨_, h2, h3⟩ := hid (x.s b u q)
      rw [h] at h2; cases h2
      rw [g] at h3; cases h3
  let H2 : Hp := fun b => if b = a then H' a else match noT H1 b with
    | some o => some o
    | none => match H' b with
      | some o => if isG o then some o else none
      | none => none
  have e_a : H2 a = H' a := if_pos rfl
  have e_k : ∀ {b o}, b ≠ a → noT H1 b = some o → H2 b = some o := fun {b o} hb h => by
    show (if b = a then _ else _) = _
    rw [if_neg hb, h]
  have e_g : ∀ {b o}, b ≠ a → noT H1 b = none → H' b = some o → isG o = true → H2 b = some o := fun {b o} hb h1 h2 h3 => by
    show (if b = a then _ else _) = _
    rw [if_neg hb, h1]
    dsimp only
    rw [h2]
    exact if_pos h3
  have cases2 : ∀ {b o}, H2 b = some o → (b = a ∧ H' a = some o) ∨ (b ≠ a ∧ noT H1 b = some o) ∨ (b ≠ a ∧ H' b = some o ∧ isG o = true) := fun {b o} h => by
    by_cases hb : b = a
    · subst hb; exact .inl ⟨rfl, by rw [← e_a]; exact h⟩
    · have h : (match noT H1 b with | some o => some o | none => match H' b with | some o => if isG o then some o else none | none => none) = some o := by
        rw [← h]; exact (if_neg hb).symm
      split at h
      · rename_i o' q
        cases h
        exact .inr (.inl ⟨hb, q⟩)
      · split at h
        · split at h
          · rename_i q1 o' q2 q3
            cases h
            exact .inr (.inr ⟨hb, q2, q3⟩)
          · cases h
        · cases h
  have s2 : Same H2 H' := fun b o h => by
    rcases cases2 h with ⟨rfl, h⟩ | ⟨hb, h⟩ | ⟨_, h, _⟩
    · exact h
    · exact keep b o hb h
    · exact h
  have na : ∀ {b : Addr} {o : HO}, H' b = some o → isG o = true → b ≠ a := fun h g z => by
    subst z
    obtain ⟨l, m, c, d⟩ := d
    rw [h] at d; cases d; cases g
  have g2 : ∀ {b : Addr} {o : HO}, H' b = some o → isG o = true → H2 b = some o := fun {b o} h g => by
    refine e_g (na h g) ?_ h g
    cases q : noT H1 b with
    | none => rfl
    | some u =>
      have := keep b u (na h g) q
      rw [h] at this; cases this
      rw [(noT_some q).2] at g; cases g
  refine ⟨H2, fun p hp => ?_, ?_, fun b o hb h => ?_, ⟨⟨fun _ _ e => (by cases e), s2, fun b o h => (hid (x.s b o h)).2.1, fun b o _ h hn => ?_⟩, S.len, fun i d e => ?_, fun i d e => ?_, S.nt, S.dis⟩⟩
  · obtain ⟨ps, h1, h2, h3⟩ := t p hp
    refine ⟨ps, g2 h1 rfl, h2, fun pos cv hc => ?_⟩
    obtain ⟨c, w1, w2⟩ := h3 pos cv hc
    exact ⟨c, w1, g2 w2 rfl⟩
  · obtain ⟨l, m, c, d⟩ := d
    exact ⟨l, m, c, by rw [e_a]; exact d⟩
  · have h1 := y b o hb h
    exact noT_of (e_k hb h1) (noT_some h1).2
  · rcases cases2 h with ⟨rfl, _⟩ | ⟨hb, h⟩ | ⟨_, h, g⟩
    · exact hFa
    · obtain ⟨w1, w2⟩ := noT_some h
      have hF : F b = none := S.ext.n b o rfl w1 hn
      exact x.n b o hF (hide_of hb (noT_of (S.ext.h b o w1) w2)) hn
    · exact hFg b o h g
  · obtain ⟨v, h1, h2⟩ := S.fro i d e
    exact ⟨v, h1, h2.mono x.f⟩
  · obtain ⟨b, o, h1, h2, h3, h4, h5⟩ := S.own i d e
    have hb : b ≠ a := fun z => by
      subst z
      obtain ⟨l, m, c, d⟩ := d1
      rw [d] at h4; cases h4
    have w := x.h b o (hide_of hb (noT_of h2 (rpO_ntbl h5)))
    obtain ⟨_, w2, w3⟩ := hid w
    refine ⟨b, o, h1, w2, x.n b o h3 (hide_of hb (noT_of h2 (rpO_ntbl h5))) (tupO_own h5 (S.nt i d e)), ?_, h5.mono x.f⟩
    cases q : H2 b with
    | none => rfl
    | some u =>
      rcases cases2 q with ⟨rfl, _⟩ | ⟨_, h⟩ | ⟨_, h, g⟩
      · exact absurd rfl hb
      · rw [(noT_some h).1] at h4; cases h4
      · rw [w2] at h; cases h; rw [w3] at g; cases g
end
end DZ

namespace DZ
open PySem PySem.Spec PyProof.Rows L2 LamX DL DN DK
section
variable {K : PySem.W.Frag} {T : List (Addr × Str)} {a : Addr} {H0 F H F' H' : Hp} {σ : L2.St} {ρ ρ' : DS}
theorem tabs_but {H H' : Hp} (t : Tabs T H) (d : DiceAt H a) (e : ∀ b o, b ≠ a → H b = some o → H' b = some o) : Tabs T H' := fun p hp => by
  obtain ⟨l, m, c, d⟩ := d
  obtain ⟨ps, h1, h2, h3⟩ := t p hp
  refine ⟨ps, e _ _ (fun z => by rw [z, d] at h1; cases h1) h1, h2, fun pos cv hc => ?_⟩
  obtain ⟨c', w1, w2⟩ := h3 pos cv hc
  exact ⟨c', w1, e _ _ (fun z => by rw [z, d] at w2; cases w2) w2⟩
/-- a piece that draws nothing -/
theorem ZR.sx {t : TS} {m : M Fl} (hx : ∀ F0 H0, Sx ⟨K, F0, H0⟩ t m) (hi : IrF m) {s0 : SV} (e : m (.unk :: ρ) = some (.nx (s0 :: ρ'))) (S : ZR K T a H0 F H σ ρ) {En : Ends} (k : ∀ σ' F' H', ZR K T a H0 F' H' σ' ρ' → Same F F' → En.nx σ' H') : t En σ H := by
  obtain ⟨H1, t1, d1, y, S⟩ := S
  exact hx _ _ _ σ F H En _ S (hi.nx e _) fun σ' F' H' S' s' => k σ' F' H' ⟨H1, t1, d1, y, S'⟩ s'
theorem ZR.rt {t : TS} {m : M Fl} (hx : ∀ F0 H0, Sx ⟨K, F0, H0⟩ t m) (hi : IrF m) {d : D} (e : m (.unk :: ρ) = some (.rt d)) (S : ZR K T a H0 F H σ ρ) {En : Ends} (k : ∀ v F' H', Stays a H0 H' → Tabs T H' → DiceAt H' a → Rp K F' v d → En.rt v H') : t En σ H := by
  obtain ⟨H1, t1, d1, y, S⟩ := S
  refine hx _ _ _ σ F H En _ S (hi.rt e _) fun v F' H' x r => k v F' H' (y.trans (Stays.of x.h)) (t1.ext x.h) ?_ r
  obtain ⟨l, m, c, d1⟩ := d1
  exact ⟨l, m, c, x.h _ _ d1⟩
theorem ZR.ex {t : TE} {m : M D} (hx : ∀ F0 H0, Ex ⟨K, F0, H0⟩ t m) (hi : Irr m) {d : D} (e : m (.unk :: ρ) = some d) (S : ZR K T a H0 F H σ ρ) {Q : VK} (k : ∀ v F' H', ZR K T a H0 F' H' σ ρ → Same F F' → Rp K F' v d → Q v H') : t σ H Q := by
  obtain ⟨H1, t1, d1, y, S⟩ := S
  exact hx _ _ _ σ F H Q d S (hi.at e _) fun v F' H' x r => k v F' H' ⟨H1, t1, d1, y, S.up x⟩ x.f r
theorem ZR.off (S : ZR K T a H0 F H σ ρ) (o : Off a H H') (d : DiceAt H' a) : ZR K T a H0 (noT F) H' σ ρ := by
  refine S.cut.move ⟨fun _ _ e => e, fun b u h => ?_, fun b u h => ?_, fun b u h _ _ => h⟩ d (tabs_but S.tabs S.at fun b u hb h => by rw [o b hb]; exact h)
  · obtain ⟨h1, h2⟩ := hide_ne h
    obtain ⟨h3, h4⟩ := noT_some h2
    exact hide_of h1 (noT_of (by rw [o b h1]; exact h3) h4)
  · obtain ⟨h3, h4⟩ := noT_some h
    have hb : b ≠ a := fun z => by subst z; rw [S.fr] at h3; cases h3
    exact hide_of hb (noT_of (by rw [o b hb]; exact S.s b u h3) h4)
/-! draws -/
theorem ZR.roll (S : ZR K T a H0 F H σ ρ) {n : Int} (h0 : 0 < n) (h1 : n < 1073741824) {Q : VK} {E : XK} (k : ∀ (r : Int) H', 0 ≤ r → r < n → ZR K T a H0 (noT F) H' σ ρ → Q (.int r) H') : spRoll [.ref a, .int n] H Q E :=
  ⟨a, n, rfl, S.at, h0, h1, fun r H' r0 r1 d o => k r H' r0 r1 (S.off o d)⟩
theorem ZR.one (S : ZR K T a H0 F H σ ρ) {v : V} {d : D} (r : Rp K F v d) (h0 : 0 < (itemsD d).length) (h1 : (itemsD d).length < 1073741824) {Q : VK} {E : XK} (k : ∀ x H' e, e ∈ itemsD d → ZR K T a H0 (noT F) H' σ ρ → Rp K (noT F) x e → Q x H') : spOne K [.ref a, v] H Q E := by
  have main : ∀ (b : Addr) (xs : List V) (ds : List D), F b ≠ none → (SqL K H b xs ∨ SqT K H b xs) → RpL K F xs ds → itemsD d = ds → spOne K [.ref a, .ref b] H Q E := fun b xs ds hb hs rl hd => by
    refine ⟨a, b, xs, rfl, S.at, fun z => hb (by rw [z]; exact S.fr), hs, by rw [rl.length, ← hd]; exact h0, by rw [rl.length, ← hd]; exact h1, fun i x H' hx d' o => ?_⟩
    have hl : i < ds.length := by rw [← rl.length]; exact (List.getElem?_eq_some_iff.mp hx).1
    obtain ⟨w, h3, h4⟩ := rl.get (i := i) (d := ds[i]) (by simp [hl])
    rw [hx] at h3; cases h3
    exact k x H' ds[i] (by rw [hd]; exact List.getElem_mem hl) (S.off o d') (Rp.noT h4)
  cases d with
  | lst ds =>
    obtain ⟨b, xs, rfl, hb, rl⟩ := rp_lst r
    exact main b xs ds (by rw [hb]; simp) (.inl (SqL.of (S.s _ _ hb))) rl rfl
  | tup ds =>
    obtain ⟨b, xs, rfl, hb, rl⟩ := rp_tup r
    exact main b xs ds (by rw [hb]; simp) (.inr (SqT.of (S.s _ _ hb))) rl rfl
  | _ => exact absurd h0 (by simp [itemsD])
/-- a def that draws and makes no lambda is called -/
theorem ZR.w {Pre : List D → Prop} {R : List D → D → Prop} (S : ZR K T a H0 F H σ ρ) {ws : List V} {ds : List D} (r : RpL K F ws ds) (p : Pre ds) {Q : VK} {E : XK} (k : ∀ d v F' H', R ds d → ZR K T a H0 F' H' σ ρ → Same (noT F) F' → Rp K F' v d → Q v H') : spW K Pre R (.ref a :: ws) H Q E := by
  have S := S.cut
  refine ⟨a, ws, noT F, ds, rfl, S.at, S.s, S.fr, RpL.noT r, p, fun d v F' H' hr x da fa rv => ?_⟩
  have n : NoTbl (noT F) := noT_no
  refine k d v (noT F') H' hr (S.move ⟨n.same x.f, fun b u h => ?_, fun b u h => ?_, fun b u h1 h2 h3 => ?_⟩ da (tabs_but S.tabs S.at fun b u hb h => ?_)) (n.same x.f) (Rp.noT rv)
  · obtain ⟨h1, h2⟩ := hide_ne h
    obtain ⟨h3, h4⟩ := noT_some h2
    exact hide_of h1 (noT_of (hide_ne (x.h b u (hide_of h1 h3))).2 h4)
  · obtain ⟨h1, h2⟩ := noT_some h
    obtain ⟨h3, h4⟩ := hide_ne (x.s b u h1)
    exact hide_of h3 (noT_of h4 h2)
  · obtain ⟨h4, h5⟩ := hide_ne h2
    exact noT_none (x.n b u h1 (hide_of h4 (noT_some h5).1) h3)
  · exact (hide_ne (x.h b u (hide_of hb h))).2
/-- a def that makes lambdas is called -/
theorem ZR.t {n : Nat} {r : List D → Option D} (S : ZR K T a H0 F H σ ρ) {ws : List V} {ds : List D} {d : D} (rl : RpL K F ws ds) (hl : ds.length = n) (e : r ds = some d) {Q : VK} {E : XK} (k : ∀ v F' H', ZR K T a H0 F' H' σ ρ → Same (noT F) F' → Rp K F' v d → Q v H') : spT K T n r ws H Q E := by
  have S := S.cut
  refine ⟨noT F, ds, d, S.s, noT_no, S.tabs, RpL.noT rl, hl, e, fun v F' H' x t' rv => ?_⟩
  obtain ⟨l, m, c, da⟩ := S.at
  have da' : DiceAt H' a := ⟨l, m, c, (noT_some (x.h _ _ (noT_of da rfl))).1⟩
  have fa : F' a = none := x.n _ _ S.fr (noT_of da rfl) rfl
  refine k v F' H' (S.move ⟨x.f, fun b u h => ?_, fun b u h => ?_, fun b u h1 h2 h3 => x.n b u h1 (hide_ne h2).2 h3⟩ da' t') x.f rv
  · obtain ⟨h1, h2⟩ := hide_ne h
    exact hide_of h1 (x.h b u h2)
  · exact hide_of (fun z => by subst z; rw [fa] at h; cases h) (x.s b u h)
/-- the beginning -/
theorem ZR.start {N : List Str} (d : DiceAt H a) (t : Tabs T H) : ZR K T a H (fun _ => none) H (L2.start N [.ref a]) (initD (N.length - 1) []) := by
  have S : DR K (fun _ => none) H a (fun _ => none) H (L2.start N [.ref a]) (initD (N.length - 1) []) := DR.start (N := N) (ds := []) (fun _ _ e => by cases e) rfl d .nil
  obtain ⟨_, l, m, c, S⟩ := S
  have e : L2.upd H a (dice l m c) = H := by
    obtain ⟨l', m', c', d'⟩ := d
    have := S.ext.h a _ upd_same
    funext b
    by_cases hb : b = a
    · subst hb; rw [upd_same, this]
    · rw [upd_ne hb]
  rw [e] at S
  exact ⟨H, t, d, Stays.refl, S⟩
end
end DZ

/-! t[::-1] of a tuple -/
namespace DK
open PySem PySem.Spec PyProof.Rows L2 DL
theorem rev_pick : ∀ (xs : List Value), ((List.range xs.length).filterMap fun (m : Nat) => xs.toArray[(((xs.length : Nat) : Int) - 1 + (m : Int) * (-1)).toNat]?) = xs.reverse := by
  intro xs
  have h1 : ∀ m, m ∈ List.range xs.length → (xs.toArray[(((xs.length : Nat) : Int) - 1 + (m : Int) * (-1)).toNat]?) = some (xs.reverse.getD m .none) := by
    intro m hm
    have hm := List.mem_range.mp hm
    have e : ((((xs.length : Nat) : Int) - 1 + (m : Int) * (-1)).toNat) = xs.length - 1 - m := by omega
    rw [e]
    have hr : m < xs.reverse.length := by rw [List.length_reverse]; exact hm
    rw [List.getD_eq_getElem?_getD, List.getElem?_eq_getElem hr, Option.getD_some, List.getElem_reverse]
    rw [List.getElem?_toArray, List.getElem?_eq_getElem (by omega)]
  have h2 : (List.range xs.length).filterMap (fun (m : Nat) => xs.toArray[(((xs.length : Nat) : Int) - 1 + (m : Int) * (-1)).toNat]?) = (List.range xs.length).map (fun m => xs.reverse.getD m .none) := by
    have : ∀ l : List Nat, (∀ m ∈ l, m ∈ List.range xs.length) → l.filterMap (fun (m : Nat) => xs.toArray[(((xs.length : Nat) : Int) - 1 + (m : Int) * (-1)).toNat]?) = l.map (fun m => xs.reverse.getD m .none) := by
      intro l
      induction l with
      | nil => intro _; rfl
      | cons m l ih =>
        intro hl
        rw [List.filterMap_cons, h1 m (hl m List.mem_cons_self), List.map_cons, ih fun q hq => hl q (List.mem_cons_of_mem _ hq)]
    exact this _ fun _ h => h
  rw [h2]
  refine List.ext_getElem? fun i => ?_
  rw [List.getElem?_map]
  by_cases hi : i < xs.length
  · rw [List.getElem?_eq_getElem (by rw [List.length_range]; exact hi), List.getElem_range]
    have hr : i < xs.reverse.length := by rw [List.length_reverse]; exact hi
    show some (xs.reverse.getD i .none) = _
    rw [List.getD_eq_getElem?_getD, List.getElem?_eq_getElem hr]
    rfl
  · rw [List.getElem?_eq_none (by rw [List.length_range]; omega), List.getElem?_eq_none (by rw [List.length_reverse]; omega)]
    rfl
section
variable {prog : Program} {w : World} {A : Around} {E : Value → Shared → Prop} {s : Shared}
theorem rev_applied {sl : Addr} {vs : Value} {n : Nat} {Q : Int × Int × Nat → Shared → Prop} (hs : s.heap.IsSliceOf sl .none .none vs) (ps : IsPart vs (some (-1))) (h : Q ((n : Int) - 1, -1, n) s) :
    wpAny (model prog w) A (Builtin.Slice.sliceApplied (.ref sl) (pure (n : Int))) Q E s := by
  obtain ⟨os, hos, _, hds⟩ := hs
  unfold Builtin.Slice.sliceApplied Builtin.Slice.sliceFields
  refine wpAny_bind (wpAny_bind (wpAny_field hos hds (x := .none) rfl (wpAny_bind (wpAny_field hos hds (x := .none) rfl (wpAny_bind (wpAny_field hos hds (x := vs) rfl (wpAny_pure ?_)))))))
  refine wpAny_bind (HT.slicePart_ ps ?_)
  show wpAny _ _ (if ((-1 : Int) == 0) = true then _ else _) _ _ s
  rw [if_neg (show ¬ ((-1 : Int) == 0) = true by decide)]
  refine wpAny_bind (slicePart_none (wpAny_bind (slicePart_none (wpAny_bind (wpAny_pure ?_)))))
  show wpAny _ _ (pure ((n : Int) - 1, (-1 : Int), Builtin.Slice.slicePlaces ((n : Int) - 1) (-1) (-1))) _ _ s
  have e : Builtin.Slice.slicePlaces ((n : Int) - 1) (-1) (-1) = n := by
    unfold Builtin.Slice.slicePlaces
    rw [if_neg (show ¬ ((-1 : Int) > 0) by decide)]
    by_cases hn : ((n : Int) - 1) > -1
    · rw [if_pos hn]
      have : ((n : Int) - 1 - -1 - 1) / (- -1) + 1 = (n : Int) := by
        have e2 : (- -1 : Int) = 1 := rfl
        rw [e2, Int.ediv_one]
        omega
      rw [this]; rfl
    · rw [if_neg hn]
      have : n = 0 := by omega
      subst this
      rfl
  rw [e]
  exact wpAny_pure h
theorem getItem_rev {t sl : Addr} {xs : List Value} {vs : Value} {Q : Value → Shared → Prop} (ht : IsTup s.heap t xs.toArray) (hs : s.heap.IsSliceOf sl .none .none vs) (ps : IsPart vs (some (-1))) (hsz : xs.length ≤ sizeLine)
    (h : Q (.ref s.heap.objs.size) { s with heap := s.heap.push { cls := .type "tuple", data := .seq xs.reverse.toArray } }) : wpAny (model prog w) A (getItem (.ref t) (.ref sl)) Q E s := by
  have hok : sizeOk (.seq xs.reverse.toArray) := by
    show xs.reverse.toArray.size ≤ sizeLine
    rw [List.size_toArray, List.length_reverse]; exact hsz
  have hTs : s.TypeIs (.ref sl) "slice" := by
    obtain ⟨os, hos, hcs, _⟩ := hs
    exact ⟨os, hos, hcs⟩
  unfold getItem
  try with_reducible refine wpAny_holding ?_
  first | refine wpAny_bind (wpAny_pure ?_) | skip
  refine wpAny_bind (wpAny_sequenceKey ht.typeIs (by decide) ?_)
  refine wpAny_bind (wpAny_callSpecial?_slot (name := Str.ofString "__getitem__") ht.typeIs slot_tuple_getitem (wpAny_call_entry slot_tuple_getitem ht.typeIs entry_tuple_getitem ?_ (args_tuple_getitem _ _)))
  show wpAny _ _ (Builtin.Tuple.tupleItemsOf (.ref t) >>= _) _ _ s
  refine wpAny_bind (tupleItemsOf_ ht ?_)
  refine wpAny_bind (wpAny_typeOf hTs ?_)
  rw [if_pos (by decide)]
  have esz : xs.toArray.size = xs.length := List.size_toArray ..
  rw [esz]
  refine wpAny_bind (rev_applied hs ps ?_)
  have hno : ¬ ((((xs.length : Nat) : Int) - 1 == 0 && (-1 : Int) == 1 && xs.length == xs.length) = true) := by
    intro q
    rw [Bool.and_eq_true, Bool.and_eq_true] at q
    exact absurd q.1.2 (by decide)
  show wpAny _ _ (if ((((xs.length : Nat) : Int) - 1 == 0 && (-1 : Int) == 1 && xs.length == xs.length) = true) then _ else _) _ _ s
  rw [if_neg hno, rev_pick]
  first
    | exact wpAny_bind (m := Builtin.Tuple.tupleExact _) (wpAny_newObj_type (wpAny_pure ⟨_, rfl, wpAny_pure h⟩) hok)
    | exact wpAny_bind (m := Builtin.Tuple.tupleExact _) (wpAny_newObj_type (wpAny_bind (wpAny_pure (wpAny_pure ⟨_, rfl, wpAny_pure h⟩))) hok)
    | exact wpAny_bind (wpAny_bind (m := Builtin.Tuple.tupleExact _) (wpAny_newObj_type (wpAny_pure (wpAny_pure ⟨_, rfl, wpAny_pure h⟩)) hok))
    | exact wpAny_bind (wpAny_bind (m := Builtin.Tuple.tupleExact _) (wpAny_newObj_type (wpAny_pure ⟨_, rfl, wpAny_pure h⟩) hok))
end
def tRevT (K : PySem.W.Frag) (te : TE) : TE := fun σ H Q => te σ H fun x H1 => ∃ a xs, x = .ref a ∧ SqT K H1 a xs ∧ ∀ p, H1 p = none → Q (.ref p) (upd H1 p (.tup xs.reverse))
theorem pe_revT {X : Cx} {e : Expr} {te : TE} {k : Nat} {p1 p2 p3 pos : Pos} (he : PE X e te) : PE X (.Subscript e (.Slice none none (some (.UnaryOp .USub (.Constant (.int 1) k p1) p2)) p3) pos) (tRevT X.K te) := by
  refine ⟨fun pins s σ H Q I h => ?_⟩
  refine Subscript_ (thn (he.run pins s σ H _ I h) fun v s1 ⟨x, H1, I1, r1, a, xs, ex, hx, q⟩ => ?_)
  subst ex
  cases r1
  have hst : PO X (some (.UnaryOp .USub (.Constant (.int 1) k p1) p2)) (tPart (tUn (rU fun i => .int (-i)) (tC (.int 1)))) := po_some (pe_un un_neg pe_int)
  refine wpAny_Slice (thn (po_none.run pins s1 σ H1 (fun o H2 => o = none ∧ H2 = H1) I1 ⟨rfl, rfl⟩) fun vl s2 ⟨l, H2, I2, pl, el, e2⟩ => ?_)
  subst el e2
  refine thn (po_none.run pins s2 σ H2 (fun o H3 => o = none ∧ H3 = H2) I2 ⟨rfl, rfl⟩) fun vu s3 ⟨u, H3, I3, pu, eu, e3⟩ => ?_
  subst eu e3
  refine thn (hst.run pins s3 σ H3 (fun o H4 => o = some (-1) ∧ H4 = H3) I3 ⟨1, rfl, -1, rfl, rfl, rfl⟩) fun vs s4 ⟨o, H4, I4, ps, eo, e4⟩ => ?_
  subst eo e4
  cases pl
  cases pu
  have I5 : Inv X pins σ H4 { s4 with heap := s4.heap.push { cls := .type "slice", data := .fields #[.none, .none, vs] } } := I4.kept (t' := s4.toks) fun b ob q => Heap.get?_push_of_some _ q
  obtain ⟨its, r, ht, hz⟩ := I5.tuple hx
  show wpAny (model X.prog X.w) X.A (subscriptTail e (.Slice none none (some (.UnaryOp .USub (.Constant (.int 1) k p1) p2)) p3) (.ref a) (.ref s4.heap.objs.size)) (EP X pins σ Q) X.xe { s4 with heap := s4.heap.push { cls := .type "slice", data := .fields #[.none, .none, vs] } }
  refine tail_any (ops := [.ref a, .ref s4.heap.objs.size]) ht.typeIs (slot_tuple_getitem.lookup) ?_ (by with_unfolding_all rfl)
  refine getItem_rev ht (Heap.IsSliceOf.new _ .none .none vs) ps (by rw [← r.length]; exact hz) ?_
  refine ⟨.ref _, _, I5.laid (t' := s4.toks) (o := .tup xs.reverse) (fun b ob q => Heap.get?_push_of_some _ q) (Nat.le_refl _) ?_, rfl, q _ (I5.hok.fresh (Nat.le_refl _))⟩
  exact ⟨by rw [List.length_reverse]; exact hz, _, r.reverse, IsTup.new _ _⟩
end DK

/-! min, list + list, slices, isinstance of any value -/
namespace DL
open PySem PySem.Spec L2 DK
section
variable {c : Cc} {ta tb tc : TE} {ma mb mc : M D}
/-! min of a list of ints -/
def minZ : Int → List Int → Int
  | m, [] => m
  | m, i :: is => minZ (if i < m then i else m) is
theorem minZ_le : ∀ (is : List Int) (m : Int), minZ m is ≤ m ∧ ∀ y ∈ is, minZ m is ≤ y
  | [], m => ⟨Int.le_refl _, fun y hy => nomatch hy⟩
  | i :: is, m => by
    obtain ⟨h1, h2⟩ := minZ_le is (if i < m then i else m)
    unfold minZ
    by_cases h : i < m
    · rw [if_pos h] at h1 h2 ⊢
      exact ⟨by omega, fun y hy => by rcases List.mem_cons.mp hy with rfl | hy; exact h1; exact h2 y hy⟩
    · rw [if_neg h] at h1 h2 ⊢
      exact ⟨h1, fun y hy => by rcases List.mem_cons.mp hy with rfl | hy; omega; exact h2 y hy⟩
theorem minZ_mem : ∀ (is : List Int) (m : Int), minZ m is = m ∨ minZ m is ∈ is
  | [], m => .inl rfl
  | i :: is, m => by
    unfold minZ
    rcases minZ_mem is (if i < m then i else m) with h | h
    · by_cases q : i < m
      · rw [if_pos q] at h ⊢; exact .inr (by rw [h]; exact List.mem_cons_self)
      · rw [if_neg q] at h ⊢; exact .inl h
    · exact .inr (List.mem_cons_of_mem _ h)
def fMinI (d : D) : Option D := (lstD d).bind fun ds => (intsD ds).bind fun is => match is with
  | i :: is => some (.int (minZ i is))
  | [] => none
theorem bMinI : CB c (rMin c.K) (f1 fMinI) := fun F H vs ds z Q s r h k => by
  obtain ⟨d, rfl, h⟩ := f1_some h
  obtain ⟨es, h1, h2⟩ := Option.bind_eq_some_iff.mp h
  obtain ⟨is, h3, h4⟩ := Option.bind_eq_some_iff.mp h2
  obtain rfl := lstD_ok h1
  obtain ⟨v, rfl, r1⟩ := rbl1 r
  obtain ⟨a, xs, rfl, e, rl⟩ := r1.lst s
  obtain ⟨rfl, rfl⟩ := ints_ok rl h3
  cases is with
  | nil => cases h4
  | cons i is =>
    cases h4
    refine ⟨a, i :: is, rfl, SqL.of e, by simp, fun m hm hle => ?_⟩
    have e1 : m = minZ i is := by
      obtain ⟨q1, q2⟩ := minZ_le is i
      have m1 : m ≤ minZ i is := by
        rcases minZ_mem is i with h | h
        · rw [h]; exact hle i List.mem_cons_self
        · exact hle _ (List.mem_cons_of_mem _ h)
      have m2 : minZ i is ≤ m := by
        rcases List.mem_cons.mp hm with rfl | hm
        · exact q1
        · exact q2 m hm
      omega
    subst e1
    exact k _ F H (Ext.refl s) (.int _)
/-! list + list -/
def fCatL (d e : D) : Option D := (lstD d).bind fun ds => (lstD e).bind fun es => if decide (ds.length + es.length < 1000) then some (.lst (ds ++ es)) else none
theorem ox_catL (ha : Bx c ta ma) (hb : Bx c tb mb) : Ox c (tOp rCat ta tb) (m2 fCatL ma mb) := fun δ σ F H Q z S e k => by
  obtain ⟨d1, d2, e1, e2, e3⟩ := m2_some e
  unfold fCatL at e3
  obtain ⟨ds, h1, e4⟩ := Option.bind_eq_some_iff.mp e3
  obtain ⟨es, h2, e5⟩ := Option.bind_eq_some_iff.mp e4
  obtain rfl := lstD_ok h1
  obtain rfl := lstD_ok h2
  split at e5
  · rename_i hl
    cases e5
    have hl := of_decide_eq_true hl
    refine ha δ σ F H _ _ S e1 fun x F1 H1 x1 r1 => ?_
    refine hb δ σ F1 H1 _ _ (S.up x1) e2 fun y F2 H2 x2 r2 => ?_
    obtain ⟨a, xs, rfl, q1, rl1⟩ := (r1.up x2).lst x2.s
    obtain ⟨b, ys, rfl, q2, rl2⟩ := r2.lst x2.s
    refine ⟨a, b, xs, ys, rfl, rfl, q1, q2, by rw [rl1.length, rl2.length]; exact Nat.le_trans (Nat.le_of_lt hl) (by decide), fun p hp => ?_⟩
    have x12 := x1.trans x2
    exact k p _ F2 _ (x12.trans (Ext.temp x2.s hp)) (by
      cases q : H p with
      | none => rfl
      | some u => have := x12.h p u q; rw [hp] at this; cases this) upd_same (none_of x2.s hp) (.lst (rl1.app rl2))
  · cases e5
/-! parts of slices -/
def PX (c : Cc) (t : TO) (m : M (Option Int)) : Prop := ∀ (δ : DS) (σ : St) (F H : Hp) (Q : Option Int → Hp → Prop) (o : Option Int), SR c.K c.F0 c.H0 F H σ δ → m δ = some o → (∀ F' H', Ext F H F' H' → Q o H') → t σ H Q
def mNoPart : M (Option Int) := fun _ => some none
theorem px_none : PX c tNoPart mNoPart := fun δ σ F H Q o S e k => by cases e; exact k F H (Ext.refl S.sFH)
def intD : D → Option Int
  | .int i => some i
  | _ => none
theorem intD_ok {d : D} {i : Int} (h : intD d = some i) : d = .int i := by
  cases d <;> first
    | (cases h; rfl)
    | (cases h; done)
def mPart (m : M D) : M (Option Int) := fun δ => (m δ).bind fun d => (intD d).map some
theorem px_some (h : Ex c ta ma) : PX c (tPart ta) (mPart ma) := fun δ σ F H Q o S e k => by
  obtain ⟨d, e1, e2⟩ := Option.bind_eq_some_iff.mp (show (ma δ).bind (fun d => (intD d).map some) = some o from e)
  obtain ⟨i, e3, rfl⟩ := Option.map_eq_some_iff.mp e2
  obtain rfl := intD_ok e3
  refine h δ σ F H _ _ S e1 fun v F1 H1 x1 r1 => ?_
  exact ⟨i, rp_int r1, k F1 H1 x1⟩
def cutD (ds : List D) (lo hi : Option Int) : List D := (ds.drop (HT.sIx ds.length 0 lo)).take (HT.sIx ds.length ds.length hi - HT.sIx ds.length 0 lo)
theorem RpL.drop {K : PySem.W.Frag} {F : Hp} : ∀ (n : Nat) {vs : List V} {ds : List D}, RpL K F vs ds → RpL K F (vs.drop n) (ds.drop n)
  | 0, _, _, h => h
  | n + 1, _, _, .nil => .nil
  | n + 1, _, _, .cons _ t => RpL.drop n t
theorem RpL.take {K : PySem.W.Frag} {F : Hp} : ∀ (n : Nat) {vs : List V} {ds : List D}, RpL K F vs ds → RpL K F (vs.take n) (ds.take n)
  | 0, _, _, h => by rw [List.take_zero, List.take_zero]; exact .nil
  | n + 1, _, _, .nil => by rw [List.take_nil, List.take_nil]; exact .nil
  | n + 1, _, _, .cons r t => by rw [List.take_succ_cons, List.take_succ_cons]; exact .cons r (RpL.take n t)
theorem cut_rp {K : PySem.W.Frag} {F : Hp} {vs : List V} {ds : List D} (r : RpL K F vs ds) (lo hi : Option Int) : RpL K F (cutV vs lo hi) (cutD ds lo hi) := by
  unfold cutV cutD
  rw [r.length]
  exact RpL.take _ (RpL.drop _ r)
def isWhole (n : Nat) (lo hi : Option Int) : Bool := Nat.beq (HT.sIx n 0 lo) 0 && Nat.beq (HT.sIx n n hi) n
def fSlT (d : D) (lo hi : Option Int) : Option D := (tupD d).map fun ds => if isWhole ds.length lo hi then d else .tup (cutD ds lo hi)
def mSlT (m : M D) (ml mh : M (Option Int)) : M D := fun δ => (m δ).bind fun d => (ml δ).bind fun lo => (mh δ).bind fun hi => fSlT d lo hi
theorem ex_slT {tl th : TO} {ml mh : M (Option Int)} (ha : Ex c ta ma) (hl : PX c tl ml) (hh : PX c th mh) : Ex c (tSl (rSlA c.K) ta tl th) (mSlT ma ml mh) := fun δ σ F H Q z S e k => by
  obtain ⟨d, e1, e⟩ := Option.bind_eq_some_iff.mp (show (ma δ).bind _ = some z from e)
  obtain ⟨lo, e2, e⟩ := Option.bind_eq_some_iff.mp e
  obtain ⟨hi, e3, e⟩ := Option.bind_eq_some_iff.mp e
  obtain ⟨ds, e4, rfl⟩ := Option.map_eq_some_iff.mp (show (tupD d).map _ = some z from e)
  refine ha δ σ F H _ _ S e1 fun x F1 H1 x1 r1 => ?_
  refine hl δ σ F1 H1 _ _ (S.up x1) e2 fun F2 H2 x2 => ?_
  refine hh δ σ F2 H2 _ _ ((S.up x1).up x2) e3 fun F3 H3 x3 => ?_
  have r3 := (r1.mono x2.f).mono x3.f
  obtain ⟨a, xs, rfl, q1, rl⟩ := tupD_ok r3 e4
  have x13 := (x1.trans x2).trans x3
  have key : isWhole ds.length lo hi = true ↔ (HT.sIx xs.length 0 lo = 0 ∧ HT.sIx xs.length xs.length hi = xs.length) := by
    unfold isWhole
    rw [rl.length, Bool.and_eq_true, Nat.beq_eq, Nat.beq_eq]
  refine ⟨a, xs, rfl, same_seqT x3.s q1, fun hw => ?_, fun hw p hp => ?_⟩
  · rw [if_pos (key.mpr hw)] at k
    exact k _ F3 H3 x13 r3
  · rw [if_neg fun z => hw (key.mp z)] at k
    have x4 : Ext F3 H3 (upd F3 p (.tup (cutV xs lo hi))) (upd H3 p (.tup (cutV xs lo hi))) := Ext.laid x3.s hp
    exact k _ _ _ (x13.trans x4) (.obj upd_same (.tup ((cut_rp rl lo hi).mono x4.f)))
def mSlL (m : M D) (ml mh : M (Option Int)) : M D := fun δ => (m δ).bind fun d => (ml δ).bind fun lo => (mh δ).bind fun hi => (lstD d).map fun ds => .lst (cutD ds lo hi)
theorem ox_slL {tl th : TO} {ml mh : M (Option Int)} (ha : Bx c ta ma) (hl : PX c tl ml) (hh : PX c th mh) : Ox c (tSl (rSlL c.K) ta tl th) (mSlL ma ml mh) := fun δ σ F H Q z S e k => by
  obtain ⟨d, e1, e⟩ := Option.bind_eq_some_iff.mp (show (ma δ).bind _ = some z from e)
  obtain ⟨lo, e2, e⟩ := Option.bind_eq_some_iff.mp e
  obtain ⟨hi, e3, e⟩ := Option.bind_eq_some_iff.mp e
  obtain ⟨ds, e4, rfl⟩ := Option.map_eq_some_iff.mp e
  obtain rfl := lstD_ok e4
  refine ha δ σ F H _ _ S e1 fun x F1 H1 x1 r1 => ?_
  refine hl δ σ F1 H1 _ _ (S.up x1) e2 fun F2 H2 x2 => ?_
  refine hh δ σ F2 H2 _ _ ((S.up x1).up x2) e3 fun F3 H3 x3 => ?_
  obtain ⟨a, xs, rfl, q1, rl⟩ := ((r1.up x2).up x3).lst x3.s
  have x13 := (x1.trans x2).trans x3
  refine ⟨a, xs, rfl, SqL.of q1, fun p hp => ?_⟩
  exact k p _ F3 _ (x13.trans (Ext.temp x3.s hp)) (by
    cases q : H p with
    | none => rfl
    | some u => have := x13.h p u q; rw [hp] at this; cases this) upd_same (none_of x3.s hp) (.lst (cut_rp rl lo hi))
/-! t[::-1] -/
def fRevT (d : D) : Option D := (tupD d).map fun ds => .tup ds.reverse
theorem RpL.rev {K : PySem.W.Frag} {F : Hp} : ∀ {vs : List V} {ds : List D}, RpL K F vs ds → RpL K F vs.reverse ds.reverse
  | _, _, .nil => .nil
  | _, _, .cons r t => by rw [List.reverse_cons, List.reverse_cons]; exact (RpL.rev t).app (.cons r .nil)
theorem ex_revT (ha : Ex c ta ma) : Ex c (tRevT c.K ta) (mF fRevT ma) := fun δ σ F H Q z S e k => by
  obtain ⟨d, e1, e2⟩ := Option.bind_eq_some_iff.mp (show (ma δ).bind fRevT = some z from e)
  obtain ⟨ds, e3, rfl⟩ := Option.map_eq_some_iff.mp (show (tupD d).map _ = some z from e2)
  refine ha δ σ F H _ _ S e1 fun x F1 H1 x1 r1 => ?_
  obtain ⟨a, xs, rfl, q1, rl⟩ := tupD_ok r1 e3
  refine ⟨a, xs, rfl, same_seqT x1.s q1, fun p hp => ?_⟩
  have x4 : Ext F1 H1 (upd F1 p (.tup xs.reverse)) (upd H1 p (.tup xs.reverse)) := Ext.laid x1.s hp
  exact k _ _ _ (x1.trans x4) (.obj upd_same (.tup ((RpL.rev rl).mono x4.f)))
/-! isinstance of any value that is no instance -/
def isKind (n b i s t l d : Bool) : D → Option Bool
  | .non => some n
  | .bl _ => some b
  | .int _ => some i
  | .str _ => some s
  | .tup _ => some t
  | .ftup _ => some t
  | .lst _ => some l
  | .dct _ _ _ => some d
  | _ => none
theorem isG_dct {K : PySem.W.Frag} {H : Hp} {v : V} {tt : Bool} {ks vs : List D} {m : String} {n b i s t l d y : Bool} {G : Prop} (r : Rp K H v (.dct tt ks vs)) (h : isKind n b i s t l d (.dct tt ks vs) = some y) (hd : kitB "dict" m = some d) (main : ∀ (tn : String), TyX K H v (.type tn) → kitB tn m = some y → G) : G := by
  have e : d = y := Option.some.inj (show some d = some y from h)
  subst e
  cases tt with
  | true => obtain ⟨a, kvs, rfl, e1, _⟩ := rp_dT r; exact main _ (.base (.dT e1)) hd
  | false => obtain ⟨a, kvs, rfl, e1, _⟩ := rp_dK r; exact main _ (.base (.dK e1)) hd
def fIsG (kd : D → Option Bool) (cd : D → Bool) : List D → Option D
  | [d, e] => if cd e then (kd d).map .bl else none
  | _ => none
theorem cb_isG {m : String} {n b i s t l d : Bool} (hn : kitB "NoneType" m = some n) (hb : kitB "bool" m = some b) (hi : kitB "int" m = some i) (hs : kitB "str" m = some s) (ht : kitB "tuple" m = some t) (hl : kitB "list" m = some l) (hd : kitB "dict" m = some d) :
    CB c (rIsi c.K) (fIsG (isKind n b i s t l d) (isTyD m)) := fun F H vs ds z Q sm r h k => by
  unfold fIsG at h
  split at h
  · rename_i x e
    split at h
    · rename_i hq
      obtain ⟨y, h2, rfl⟩ := Option.map_eq_some_iff.mp h
      obtain ⟨v, w, rfl, r1, r2⟩ := rbl2 r
      have cw : ClsV w (.type m) := cls_ty H e w hq (r2.h sm)
      have main : ∀ (tn : String), TyX c.K H v (.type tn) → kitB tn m = some y → rIsi c.K [v, w] H Q := fun tn ht hk => ⟨v, w, _, _, y, rfl, cw, ht, kit_ty hk, k _ F H (Ext.refl sm) (.bl _)⟩
      have r1 := r1.h sm
      cases x <;> first
        | (cases h2; obtain rfl := rp_non r1; exact main _ (.base .non) hn)
        | (cases h2; obtain rfl := rp_bl r1; exact main _ (.base (.bl _)) hb)
        | (cases h2; obtain rfl := rp_int r1; exact main _ (.base (.int _)) hi)
        | (cases h2; obtain rfl := rp_str r1; exact main _ (.base (.str _)) hs)
        | (cases h2; obtain ⟨a, xs, rfl, e1, _⟩ := rp_tup r1; exact main _ (.base (.tup e1)) ht)
        | (cases h2; obtain ⟨a, ob, xs, rfl, e1, _⟩ := rp_ftup r1; exact main _ (.fTuple e1) ht)
        | (cases h2; obtain ⟨a, xs, rfl, e1, _⟩ := rp_lst r1; exact main _ (.base (.lst e1)) hl)
        | (cases h2; done)
        | (exact isG_dct r1 h2 hd main)
    · cases h
  · cases h
def kInt := isKind false true true false false false false
def kBool := isKind false true false false false false false
def kTup := isKind false false false false true false false
theorem bIsInt : CB c (rIsi c.K) (fIsG kInt (isTyD "int")) := cb_isG (by decide +kernel) (by decide +kernel) (by decide +kernel) (by decide +kernel) (by decide +kernel) (by decide +kernel) (by decide +kernel)
theorem bIsBool : CB c (rIsi c.K) (fIsG kBool (isTyD "bool")) := cb_isG (by decide +kernel) (by decide +kernel) (by decide +kernel) (by decide +kernel) (by decide +kernel) (by decide +kernel) (by decide +kernel)
theorem bIsTup : CB c (rIsi c.K) (fIsG kTup (isTyD "tuple")) := cb_isG (by decide +kernel) (by decide +kernel) (by decide +kernel) (by decide +kernel) (by decide +kernel) (by decide +kernel) (by decide +kernel)
end
end DL

/-! a method that settles an instance anew -/
namespace DL
open PySem PySem.Spec L2
/-- one more argument; the instance may have fields -/
def spSet (K : PySem.W.Frag) (C : Addr) (r : D → D → Option D) : Sp := fun vs H Q _ => ∃ (F : Hp) (p : Addr) (o0 : HO) (d0 : D) (v : V) (d z : D), Same F H ∧ F p = none ∧ H p = some o0 ∧ RpO K F o0 d0 ∧ isOwnD d0 = true ∧ vs = [.ref p, v] ∧ Rp K F v d ∧ r d0 d = some z ∧
  ∀ F' H' o, Ext F (hideH p H) F' H' → F' p = none → H' p = some o → RpO K F' o z → Q .non H'
theorem spSet_len {K : PySem.W.Frag} {C : Addr} {r : D → D → Option D} {vs : List V} {H : Hp} {Q : VK} {E : XK} (h : spSet K C r vs H Q E) : vs.length = 2 := by
  obtain ⟨F, p, o0, d0, v, d, z, _, _, _, _, _, rfl, _⟩ := h
  rfl
def initQ (n : Nat) (d0 d : D) : DS := SV.own d0 :: SV.fro d :: List.replicate (n - 2) SV.unk
theorem sr_set {K : PySem.W.Frag} {F H : Hp} {N : List Str} {p : Addr} {o0 : HO} {d0 : D} {v : V} {d : D} (s : Same F H) (hF : F p = none) (hp : H p = some o0) (r0 : RpO K F o0 d0) (h0 : isOwnD d0 = true) (r : Rp K F v d) : SR K F (hideH p H) F H (L2.start N [.ref p, v]) (initQ N.length d0 d) where
  ext := ⟨fun _ _ e => e, fun b o e => (hide_ne e).2, s, fun _ _ e _ _ => e⟩
  len := by
    unfold L2.start initQ
    simp only [List.map_cons, List.map_nil, List.length_append, List.length_cons, List.length_nil, List.length_replicate]
    omega
  fro := fun i e h => by
    match i, h with
    | 0, h => simp [initQ] at h
    | 1, h =>
      simp [initQ] at h; subst h
      exact ⟨v, by unfold L2.start; simp, r⟩
    | i + 2, h => simp [initQ] at h; cases unk_get h
  own := fun i e h => by
    match i, h with
    | 0, h =>
      simp [initQ] at h; subst h
      exact ⟨p, _, by unfold L2.start; simp, hp, hF, hide_same, r0⟩
    | 1, h => simp [initQ] at h
    | i + 2, h => simp [initQ] at h; cases unk_get h
  nt := fun i e h => by
    match i, h with
    | 0, h => simp [initQ] at h; subst h; exact h0
    | 1, h => simp [initQ] at h
    | i + 2, h => simp [initQ] at h; cases unk_get h
  dis := fun i j a e e' h1 h2 _ _ => by
    match i, j, h1, h2 with
    | 0, 0, _, _ => rfl
    | 0, 1, _, h => simp [initQ] at h
    | 0, j + 2, _, h => simp [initQ] at h; cases unk_get h
    | 1, _, h, _ => simp [initQ] at h
    | i + 2, _, h, _ => simp [initQ] at h; cases unk_get h
def runQ (n : Nat) (m : M Fl) (d0 d : D) : Option D := match m (initQ n d0 d) with
  | some (.nx δ) => ownAt 0 δ
  | _ => none
theorem set_end {t : TS} {m : M Fl} {N : List Str} {K : PySem.W.Frag} {C : Addr} {vs : List V} {H : Hp} {Q : VK} {E : XK} (h : spSet K C (runQ N.length m) vs H Q E) (sx : ∀ F0 H0, SxP ⟨K, F0, H0⟩ 0 t m) :
    t { nx := fun _ H' => Q .non H', rt := Q } (L2.start N vs) H := by
  obtain ⟨F, p, o0, d0, v, d, z, s, hF, hp, r0, h0, rfl, r, e, k⟩ := h
  unfold runQ at e
  split at e
  · rename_i δ q
    refine sx F (hideH p H) p (initQ N.length d0 d) _ F H _ _ (sr_set s hF hp r0 h0 r) (by unfold L2.start; simp) q ?_
    intro σ' F' H' S' s' hp'
    obtain ⟨a, o, h1, h2, h3, h4, h5⟩ := S'.own 0 z (ownAt_ok e)
    rw [hp'] at h1; cases h1
    exact k F' H' o S'.ext h3 h2 h5
  · cases e
def mSetS (i : Nat) (C : Addr) (m : Str) (r : D → D → Option D) (ma : M D) : M Fl := fun δ => (ownAt i δ).bind fun d => match d with
    | .ins C' ns vs => if C' = C ∧ m ∉ ns then (ma δ).bind fun x => (r (.ins C ns vs) x).bind fun z => if isOwnD z then some (.nx (δ.set i (SV.own z))) else none else none
    | _ => none
theorem look_names {m : Str} : ∀ {fs : List (Str × V)}, m ∉ fs.map (·.1) → fs.lookup m = none
  | [], _ => rfl
  | (g, x) :: fs, h => by
    have h1 : m ≠ g := fun z => h (by rw [z]; exact List.mem_cons_self)
    have h2 : m ∉ fs.map (·.1) := fun z => h (List.mem_cons_of_mem _ z)
    rw [List.lookup_cons, beq_eq_false_iff_ne.mpr h1]
    exact look_names h2
/-- x.m(e), x an own instance, m settles -/
theorem sx_set {c : Cc} {ta : TE} {ma : M D} (i : Nat) {C : Addr} {m : Str} {r : D → D → Option D} (ha : Ex c ta ma) : Sx c (tDrop (tMeth C m (spSet c.K C r) [] E0 (tVar i) (tCons ta tNil))) (mSetS i C m r ma) := fun δ σ F H En fl S e k => by
  obtain ⟨d, e1, f1⟩ := Option.bind_eq_some_iff.mp e
  split at f1
  · rename_i C' ns vs
    split at f1
    · rename_i hc
      obtain ⟨rfl, hm⟩ := hc
      obtain ⟨x, e2, f2⟩ := Option.bind_eq_some_iff.mp f1
      obtain ⟨z, e3, f3⟩ := Option.bind_eq_some_iff.mp f2
      split at f3
      · rename_i hz
        cases f3
        have q := ownAt_ok e1
        obtain ⟨p, o0, g1, g2, g3, g4, g5⟩ := S.own i _ q
        cases g5 with
        | @ins _ dx0 fs0 _ _ hn0 rl0 =>
          refine ⟨.ref p, g1, p, dx0, fs0, rfl, g2, look_names (by rw [hn0]; exact hm), ?_⟩
          refine ha δ σ F H _ x S e2 fun v F1 H1 x1 r1 => ?_
          have S1 := S.up x1
          obtain ⟨a, o, h1, h2, h3, h4, h5⟩ := S1.own i _ q
          rw [g1] at h1; cases h1
          refine ⟨F1, p, o, _, v, x, z, x1.s, h3, h2, h5, rfl, rfl, r1, e3, fun F' H' o' x2 y1 y2 y3 => ?_⟩
          exact k σ F' H' (S1.swap q g1 x2 y1 y2 y3 hz) (x1.f.trans x2.f)
      · cases f3
    · cases f1
  · cases f1
structure OwnSet (P : Program) (w : World) (K : PySem.W.Frag) (mg : Str → Option Value) (base : Heap) (lvl : Nat) (C : Addr) (x : Str) (r : D → D → Option D) where
  f : Addr
  fd : FuncData
  ps : List Str
  F : FnOk P w K mg base CX0 lvl f fd ps (spSet K C r)
  m : Meth K C x f
  c : Cls K C
  b : Binds K fd ps []
/-- o.m(..), o an instance that stays -/
structure OwnMeth (P : Program) (w : World) (K : PySem.W.Frag) (mg : Str → Option Value) (base : Heap) (lvl : Nat) (C : Addr) (x : Str) (n : Nat) (r : List D → Option D) where
  f : Addr
  fd : FuncData
  ps : List Str
  F : FnOk P w K mg base CX0 lvl f fd ps (spD K n r)
  m : Meth K C x f
  c : Cls K C
  b : Binds K fd ps []
def mMeth (C : Addr) (m : Str) (n : Nat) (r : List D → Option D) (ma : M D) (mt : M (List D)) : M D := fun δ => (ma δ).bind fun d => match d with
    | .ins C' ns vs => if C' = C then (if m ∈ ns then none else (mt δ).bind fun ds => if ds.length + 1 = n then r (.ins C' ns vs :: ds) else none) else none
    | _ => none
end DL

namespace DZ
open PySem PySem.Spec PyProof.Rows L2 LamX DL DN DK
/-- a def whose code object stands at c -/
structure FunC (K : PySem.W.Frag) (x qual : Str) (st : Stmt) (f : Addr) (fd : FuncData) (c : Addr) : Prop where
  ex : ∃ (oc : Value) (od : Option Addr) (kV doc pm : Value) (an : Option Addr) (ct : Value) (osl : Array (Option Value)), fd = PySem.W.fnOf x qual (defArgs st) (defBody st) (defScope st) .none kV doc pm an (.ref c) ct ∧
    K.lookup f = some ⟨oc, od, .func (PySem.W.fnOf x qual (defArgs st) (defBody st) (defScope st) .none kV doc pm an (.ref c) ct), osl⟩ ∧ PySem.W.codeIn K (.ref c) qual = true
section
variable {P : Program} {w : World} {K : PySem.W.Frag} {mg : Str → Option Value} {base : Heap}
theorem FunC.ok {x qual : Str} {st : Stmt} {f c : Addr} {fd : FuncData} {N ps : List Str} {k : Nat} {sp : Sp} (F : FunC K x qual st f fd c) (S : FnScope N ps (defScope st)) (len : ∀ vs H Q E, sp vs H Q E → vs.length = ps.length)
    (hbody : ∀ (A : Around) (outer : List Env) (s : Shared) (H : Hp) (vs : List V) (Q : VK) (E : XK), Room k (A.deeper (envOfC qual (defScope st) s.heap.objs.size f (.ref c))) → sp vs H Q E →
      ∃ t, PSs (cxOf CX0 P w K mg base N qual (defScope st) f (.ref c) A outer s H E).nox (defBody st) t ∧ t { nx := fun _ H' => Q .non H', rt := Q } (L2.start N vs) H) : FnOk P w K mg base CX0 (k + 1) f fd ps sp := by
  obtain ⟨oc, od, kV, doc, pm, an, ct, osl, rfl, lk, hcd⟩ := F.ex
  refine fn_of lk hcd S len fun A outer s H vs Q E hr hsp => ?_
  obtain ⟨t, h, q⟩ := hbody A outer s H vs Q E hr hsp
  exact ⟨t, h.nox, q⟩
end
structure OwnT (P : Program) (w : World) (K : PySem.W.Frag) (mg : Str → Option Value) (base : Heap) (T : List (Addr × Str)) (lvl : Nat) (x : Str) (n : Nat) (r : List D → Option D) where
  f : Addr
  fd : FuncData
  ps : List Str
  F : FnOk P w K mg base CX0 lvl f fd ps (spT K T n r)
  g : mg x = some (.ref f)
  k : PySem.W.keepIn K (.ref f) = true
  b : Binds K fd ps []
end DZ

/-! list(range(n)) -/
namespace DL
open PySem PySem.Spec L2
section
variable {c : Cc} {ta : TE} {ma : M D}
def fLstR (d : D) : Option D := match d with
  | .int n => if okRg 0 n then some (.lst (rgD 0 n)) else none
  | _ => none
theorem ox_lstRg (ha : Ex c ta ma) : Ox c (tLstRg (tRg1 ta)) (mF fLstR ma) := fun δ σ F H Q z S e k => by
  obtain ⟨d, e1, e2⟩ := Option.bind_eq_some_iff.mp (show (ma δ).bind fLstR = some z from e)
  unfold fLstR at e2
  split at e2
  · split at e2
    · rename_i n h
      cases e2
      refine ha δ σ F H _ _ S e1 fun x F1 H1 x1 r1 => ?_
      obtain rfl := rp_int r1
      refine ⟨_, rfl, okRg_ok h, fun q hq => ?_⟩
      exact k q _ F1 _ (x1.trans (Ext.temp x1.s hq)) (by
        cases w : H q with
        | none => rfl
        | some u => have := x1.h q u w; rw [hq] at this; cases this) upd_same (none_of x1.s hq) (.lst (rpl_rg _ _))
    · cases e2
  · cases e2
end
end DL

/-! errors with an own __init__, over any built-in error -/
namespace DX
open PySem PySem.Spec PyProof.Rows L2 DL

abbrev St := L2.St
/-- what the head tells of an error class C over the built-in B -/
structure ErrC (K : PySem.W.Frag) (C : Addr) : Prop where
  base : ∃ (B newId initId : String) (bmB : List Value), ExcBaseFacts B newId initId bmB ∧ StoreFacts B bmB "object.__setattr__" "object" ∧
    PySem.W.excInitIn K C bmB newId = true ∧ PySem.W.excOver K C bmB = true
  hd : PySem.W.hasDictIn K C = true
  sa : PySem.W.findIn K (.ref C) "__setattr__" = some (some (.builtin "object.__setattr__"))
  sub : PySem.W.subIn K (.ref C) (.type "BaseException") = some true
  typ : PySem.W.typeIn K (.ref C) = some (.type "type")
  keep : PySem.W.keepIn K (.ref C) = true
section
variable {X : Cx} {pins : List (Addr × Obj)} {σ : St} {H : Hp} {s : Shared} {a C : Addr} {f : Str} {y : V} {u : Value} {Q : Unit → Shared → Prop} {E : Value → Shared → Prop} {A : Around}
/-- the first field of a new error -/
theorem err_store (T : ErrC X.K C) (I : Inv X pins σ H s) (e : H a = some (exo a C none)) (no : PySem.W.takerIn X.K C f = some none) (ry : RelV y u)
    (k : ∀ dx s', H dx = none → dx ≠ a → Inv X pins σ (upd (upd H dx (exd dx [(f, y)])) a (exo a C (some dx))) s' → Q () s') :
    wpAny (model X.prog X.w) A (setAttr (.ref a) f u) Q E s := by
  obtain ⟨B, nw, ii, bm, _, SF, _, ov⟩ := T.base
  obtain ⟨t1, hx⟩ := exo_at I.hok e
  obtain ⟨cd, hcd, hdd⟩ := PySem.W.any_some T.hd
  obtain ⟨hp, g, d, t, os⟩ := s
  let ob : Obj := { cls := .ref C, dict := none, data := .fields #[.ref t1, .none, .none, .none, .bool false, .none] }
  refine PySem.W.set_plain I.kIn (ox := ob) (od := none) ⟨hx, rfl, rfl, trivial⟩ T.sa ?_
  refine PySem.W.osa_openX (od := none) SF I.kIn ⟨hx, rfl, rfl, trivial⟩ ov no fun b => ?_
  refine wpAny_bind (wpAny_pure (wpAny_bind (PySem.W.instanceDict_exc hx (PySem.W.looks_clsIn I.kIn hcd) hdd ?_)))
  have hne : a ≠ hp.objs.size := Nat.ne_of_lt (Heap.lt_size hx)
  have hx1 : (hp.push { cls := .type "dict", data := .dict #[] }).get? a = some ob := Heap.get?_push_of_some _ hx
  refine PySem.HandSPX.store_in_new (hp := (hp.push { cls := .type "dict", data := .dict #[] }).update a fun o => { o with dict := some hp.objs.size }) ?_ ?_
  · exact ⟨_, #[], _, (Heap.get?_update_ne _ _ _ _ hne.symm).trans (Heap.get?_push_at rfl rfl), rfl, fun e he => absurd he (by simp), fun _ => rfl⟩
  · intro h' tk' hn hs
    have ha' : h'.get? a = some { ob with dict := some hp.objs.size } := (hs.2 a hne).trans (Heap.get?_update_self _ hx1 rfl)
    have hnd : H hp.objs.size = none := I.hok.fresh (Nat.le_refl _)
    have old : ∀ b o, b ≠ a → hp.get? b = some o → h'.get? b = some o := fun b o hb ho =>
      (hs.2 b (Nat.ne_of_lt (Heap.lt_size ho))).trans ((Heap.get?_update_ne _ _ _ _ hb).trans (Heap.get?_push_of_some _ ho))
    let h1 := h'.update a fun _ => ob
    have g1 : h1.get? a = some ob := Heap.get?_update_self _ ha' rfl
    have g2 : ∀ b, b ≠ a → h1.get? b = h'.get? b := fun b hb => Heap.get?_update_other _ _ (Ne.symm hb)
    have J : Inv X pins σ (upd H hp.objs.size (exd hp.objs.size [(f, y)])) ⟨h1, g, d, tk', os⟩ := by
      refine I.laid (t' := tk') (a := hp.objs.size) (h' := h1) (fun b o ho => ?_) (Nat.le_refl _) (exd_ok (mA := fun y => if y = f then some u else none) ?_ (relO_put (fs := []) ry fun _ => True.intro))
      · by_cases hb : b = a
        · subst hb
          have ho : hp.get? b = some o := ho
          rw [hx] at ho; cases ho
          exact g1
        · rw [g2 b hb]; exact old b o hb ho
      · exact hn.at fun o q => (g2 _ hne.symm).trans q
    have e2 : upd H hp.objs.size (exd hp.objs.size [(f, y)]) a = some (exo a C none) := by rw [upd_ne hne]; exact e
    refine k hp.objs.size _ hnd hne.symm (J.write (t' := tk') (x := a) (e := a) (o := exo a C (some hp.objs.size)) (by rw [e2]; exact True.intro) (.inl rfl) (fun b o hb ho => ?_) ⟨_, ha'⟩ (exo_ok ha'))
    exact (g2 b hb).symm.trans ho
end

theorem taker_of {K : PySem.W.Frag} {C : Addr} {f : Str} (h : PySem.W.findIn K (.ref C) f = some none) : PySem.W.takerIn K C f = some none := by
  unfold PySem.W.takerIn
  rw [h] <;> rfl
/-- __init__(self, y): self.f = y -/
def spIni (C : Addr) (f : Str) : Sp := fun vs H Q _ => ∃ (a : Addr) (y : V), vs = [.ref a, y] ∧ H a = some (exo a C none) ∧
  ∀ dx, H dx = none → dx ≠ a → Q .non (upd (upd H dx (exd dx [(f, y)])) a (exo a C (some dx)))
theorem spIni_len {C : Addr} {f : Str} {vs : List V} {H : Hp} {Q : VK} {E : XK} (h : spIni C f vs H Q E) : vs.length = 2 := by
  obtain ⟨a, y, rfl, _⟩ := h
  rfl
def tPutE (K : PySem.W.Frag) (f : Str) (to te : TE) : TS := fun D σ H => te σ H fun y H1 => to σ H1 fun x H2 => ∃ a C : Addr, x = .ref a ∧ ErrC K C ∧ PySem.W.findIn K (.ref C) f = some none ∧
  H2 a = some (exo a C none) ∧ ∀ dx, H2 dx = none → dx ≠ a → D.nx σ (upd (upd H2 dx (exd dx [(f, y)])) a (exo a C (some dx)))
section
variable {X : Cx} {o e : Expr} {es : List Expr} {to te : TE} {ta : TA} {f : Str} {p p' pos : Pos}
theorem ps_putE (ho : PE X o to) (he : PE X e te) (hs : swapsWith e (some (.Attribute o f p')) pos.line X.env = pure false := by rfl) : PS X (.Assign [.Attribute o f p'] e pos) (tPutE X.K f to te) := by
  refine ⟨fun pins s σ H D I h => plainObj_wpAny_Assign_Attribute (thn (he.run pins s σ H _ I h) fun v s1 ⟨y, H1, I1, r1, q1⟩ => ?_) hs⟩
  refine thn (ho.run pins s1 σ H1 _ I1 q1) fun u s2 ⟨x, H2, I2, r2, a, C, ex, T, no, ea, q⟩ => ?_
  subst ex
  obtain rfl : u = Value.ref a := r2
  exact err_store T I2 ea (taker_of no) r1 fun dx s' n ne J => ⟨σ, _, J, q dx n ne⟩
/-- C(e) of an error class -/
def tMkE (C : Addr) (f : Str) (ta : TA) : St → Hp → XK → Prop := fun σ H Q => ta σ H fun vs H1 => ∃ y, vs = [y] ∧ ∀ d, H1 d = none → Q (.ref C) (some d) (upd H1 d (.xd [(f, y)]))
theorem pmk_err {x : Str} {C fI : Addr} {k : Nat} {fd : FuncData} {ps : List Str} (T : ErrC X.K C) (iC : PySem.W.findIn X.K (.ref C) "__init__" = some (some (.ref fI))) (tI : PySem.W.typeIn X.K (.ref fI) = some (.type "function"))
    (F1 : FnOk X.prog X.w X.K X.mg X.base CX0 k fI fd ps (spIni C f)) (hr : Room (k + 1) X.A) (hb : Binds X.K fd ps []) (hg : Gl X x) (hm : X.mg x = some (.ref C)) (ha : PA X [e] ta)
    (hdb : (x == ("__debug__" : Str)) = false := by decide) (he : starEach (e :: []) X.env = (false, eval e X.env) :: starEach [] X.env := by rfl) (hpl : (backTo pos (starEach [] X.env)).any (·.1) = false := by rfl) :
    PMk X (.Call (.Name x p) [e] [] pos) (tMkE C f ta) := by
  intro pins s σ H Q I h
  obtain ⟨B, nw, ii, bmB, FB, _, ei, _⟩ := T.base
  refine wpAny_Call_Name_kw (ld_glob I hg hm ?_ hdb)
  refine PySem.W.callWith_K (h₀ := X.base) I.ok.mod.kin T.keep (thn (ha.run pos pins s σ H _ I h) fun us s1 ⟨vs, H1, I1, r1, y, ev, q1⟩ => ⟨I1.kIn, ?_⟩) he hpl
  subst ev
  cases r1 with
  | @cons _ u _ ur ry rn =>
    cases rn
    show wpAny _ _ (call (.ref C) [u]) _ _ _
    obtain ⟨hp, g, dr, tk, os⟩ := s1
    let a : Addr := hp.objs.size + 1
    have ha1 : hp.objs.size ≤ a := Nat.le_succ _
    have hn : H1 a = none := I1.hok.fresh ha1
    obtain ⟨nm, N, qn, bs, bm, hdct, sn, sub, ab, col, dd, k0, k1, k2, k3, k5, hC, hT⟩ := PySem.W.excInit_of I1.kIn ei
    have old : ∀ b o, hp.get? b = some o → ((hp.push (PySem.W.kdv_tup [u])).push (PySem.HandSPX.excO C hp.objs.size)).get? b = some o := fun b o z => Heap.get?_push_of_some _ (Heap.get?_push_of_some _ z)
    have new : ((hp.push (PySem.W.kdv_tup [u])).push (PySem.HandSPX.excO C hp.objs.size)).get? (hp.objs.size + 1) = some (PySem.HandSPX.excO C hp.objs.size) := by heap_get
    have I2 := I1.laid (t' := tk) (a := a) (o := exo a C none) old ha1 (exo_ok new)
    have vals2 : Vals [V.ref a, y] [Value.ref a, u] := .cons rfl (.cons ry .nil)
    have sp2 : spIni C f [V.ref a, y] (upd H1 a (exo a C none)) (fun v H2 => v = .non ∧ ∃ d, H1 d = none ∧ d ≠ a ∧ H2 = upd (upd (upd H1 a (exo a C none)) d (exd d [(f, y)])) a (exo a C (some d))) (fun _ _ _ => False) :=
      ⟨a, y, rfl, upd_same, fun d h1 h2 => ⟨rfl, d, by rw [upd_ne h2] at h1; exact h1, h2, rfl⟩⟩
    have hl : ([Value.ref a, u] ++ []).length = ps.length := by
      have z := F1.len _ _ _ _ sp2
      rw [List.append_nil, ← z]
      rfl
    have bi := hb ⟨_, g, dr, tk, os⟩ [Value.ref a, u] (I2.kIn) hl
    rw [List.append_nil] at bi
    refine wpAny_call (PySem.HandSPX.call_own FB hT hC (PySem.W.looks_findIn I1.kIn iC) (fun self => PySem.W.bind_fn I1.kIn self tI) (show 1 ≤ sizeLine by rw [sizeLine_eq]; omega)
      (codeAny_mono (F1.run _ X.stack _ _ ⟨[Value.ref a, u], []⟩ [Value.ref a, u] _ _ (fun _ _ _ => False) (hr.make C [u] []) (I2.env0.make C [u] []) bi vals2 sp2) fun r s' hq => ?_))
    cases r with
    | error er => exact hq.elim
    | ok fl =>
      cases fl with
      | ret w =>
        obtain ⟨v, H2, os2, bare2, un2, hok2, rv, ⟨ev, d, h1, h2, e2⟩⟩ := hq
        subst ev
        subst e2
        obtain ⟨hq2, g2, d2, t2, os'⟩ := s'
        have ea : (upd (upd (upd H1 a (exo a C none)) d (exd d [(f, y)])) a (exo a C (some d))) a = some (exo a C (some d)) := upd_same
        have ed : (upd (upd (upd H1 a (exo a C none)) d (exd d [(f, y)])) a (exo a C (some d))) d = some (exd d [(f, y)]) := by rw [upd_ne h2, upd_same]
        refine ⟨rv, mk_end (raises_own T.sub T.typ) I1 ha1 old un2 hok2 os2 bare2 ea ed h1 ?_⟩
        have eq : upd (del (upd (upd (upd H1 a (exo a C none)) d (exd d [(f, y)])) a (exo a C (some d))) a) d (.xd [(f, y)]) = upd H1 d (.xd [(f, y)]) := by
          funext b
          by_cases hbd : b = d
          · rw [hbd, upd_same, upd_same]
          · rw [upd_ne hbd, upd_ne hbd]
            by_cases hba : b = a
            · rw [hba, del_same, hn]
            · rw [del_ne hba, upd_ne hba, upd_ne hbd, upd_ne hba]
        rw [eq]
        exact q1 d h1
      | next => exact False.elim hq
      | brk => exact False.elim hq
      | cont => exact False.elim hq
/-- err.f in the suite that holds the error -/
structure ErrF (K : PySem.W.Frag) (C : Addr) (f : Str) : Prop where
  ga : PySem.W.findIn K (.ref C) "__getattribute__" = some (some (.builtin "BaseException.__getattribute__"))
  gg : PySem.W.findIn K (.ref C) "__getattr__" = some none
  no : PySem.W.findIn K (.ref C) f = some none
def tByE (C : Addr) (f : Str) (a : Addr) (cls : Value) (d : Option Addr) (te : TE) : TE := fun σ H Q => te σ H fun x H1 => x = .ref a ∧ cls = .ref C ∧ ∃ (dd : Addr) (v : V), d = some dd ∧ H1 dd = some (.xd [(f, v)]) ∧ Q v H1
theorem pe_byE {a C : Addr} {oe : Obj} {cls : Value} {d : Option Addr} {pn : List (Addr × Obj)} (T : ErrC X.K C) (TF : ErrF X.K C f) (hz : Zc cls d oe) (hf : ∃ vs, oe.data = .fields vs) (he : PE (X.suite a ((a, oe) :: pn)) e te)
    (hb : attributeBase e f X.env (eval e X.env) = eval e X.env := by rfl) : PE (X.suite a ((a, oe) :: pn)) (.Attribute e f pos) (tByE C f a cls d te) := by
  refine ⟨fun pins s σ H Q I h => attr_of hb (thn (he.run pins s σ H _ I h) fun u s1 hh => ?_)⟩
  obtain ⟨x, H1, I1, rx, ex, ec, dd, v, ed, ea, q⟩ := hh
  subst ex ec ed
  obtain rfl : u = Value.ref a := rx
  obtain ⟨at_, _⟩ := I1.pin (a, oe) (List.mem_append_left _ List.mem_cons_self)
  obtain ⟨vs, dat⟩ := hf
  obtain ⟨mA, hns, hr⟩ := (I1.hok dd _ ea : ObjOk X.prog X.w H1 s1.heap dd (.xd [(f, v)]))
  obtain ⟨od, ho, hl⟩ := lookIn_ns hns
  have l : List.lookup f [(f, v)] = some v := by simp [List.lookup]
  obtain ⟨w, hu, ru⟩ := RelO.some_of (v := v) (o := mA f) (by rw [← l]; exact hr f)
  have J : PySem.W.InstAt s1.heap a oe C (some od) := ⟨at_, hz.1, by unfold PySem.W.notCls; rw [dat] <;> rfl, by rw [hz.2]; exact ho⟩
  exact HandSPX.exc_get I1.kIn J TF.ga TF.gg T.sub (PySem.W.findObj_own T.hd TF.no rfl (by rw [hl, hu])) (handed_of ru) ⟨v, H1, I1.tok _, ru, q⟩
end
end DX

/-! defs that may raise, by values -/
namespace DX
open PySem PySem.Spec PyProof.Rows L2 DL

/-- an error by what it keeps -/
inductive Er where
  | plain (C : Addr)
  | fld (C : Addr) (f : Str) (d : D)
def ErTo (K : PySem.W.Frag) (F H : Hp) (E : XK) : Er → Prop
  | .plain C => ∀ F' H', Ext F H F' H' → E (.ref C) none H'
  | .fld C f d => ∀ F' H' dx v, Ext F H F' H' → H' dx = some (.xd [(f, v)]) → Rp K F' v d → E (.ref C) (some dx) H'
theorem ErTo.up {K : PySem.W.Frag} {F H F' H' : Hp} {E : XK} {e : Er} (h : ErTo K F H E e) (x : Ext F H F' H') : ErTo K F' H' E e := by
  cases e with
  | plain C => exact fun F2 H2 y => h F2 H2 (x.trans y)
  | fld C f d => exact fun F2 H2 dx v y => h F2 H2 dx v (x.trans y)
def spX (K : PySem.W.Frag) (n : Nat) (r : List D → Option D) (x : List D → Option Er) : Sp := fun vs H Q E => ∃ (F : Hp) (ds : List D), Same F H ∧ RpL K F vs ds ∧ ds.length = n ∧
  ((∃ d, r ds = some d ∧ ∀ v F' H', Ext F H F' H' → Rp K F' v d → Q v H') ∨ ∃ e, x ds = some e ∧ ErTo K F H E e)
theorem spX_len {K : PySem.W.Frag} {n : Nat} {r : List D → Option D} {x : List D → Option Er} {vs : List V} {H : Hp} {Q : VK} {E : XK} (h : spX K n r x vs H Q E) : vs.length = n := by
  obtain ⟨F, ds, _, rl, hl, _⟩ := h
  rw [rl.length, hl]
def ExE (c : Cc) (E : XK) (t : TE) (m : M Er) : Prop := ∀ (δ : DS) (σ : St) (F H : Hp) (Q : VK) (e : Er), SR c.K c.F0 c.H0 F H σ δ → m δ = some e → ErTo c.K c.F0 c.H0 E e → t σ H Q
def SxE (c : Cc) (E : XK) (t : TS) (m : M Er) : Prop := ∀ (δ : DS) (σ : St) (F H : Hp) (En : Ends) (e : Er), SR c.K c.F0 c.H0 F H σ δ → m δ = some e → ErTo c.K c.F0 c.H0 E e → t En σ H
def mNoE : M Er := fun _ => none
def mCallE (n : Nat) (x : List D → Option Er) (m : M (List D)) : M Er := fun δ => (m δ).bind fun ds => if ds.length = n then x ds else none
def mSeqE (a : M Er) (m : M Fl) (b : M Er) : M Er := fun δ => match a δ with
  | some e => some e
  | none => match m δ with
    | some (.nx δ1) => b δ1
    | _ => none
def mIfEr (m : M Bool) (a b : M Er) : M Er := fun δ => (m δ).bind fun k => if k then a δ else b δ
def mRaiseE (C : Addr) (f : Str) (m : M (List D)) : M Er := fun δ => (m δ).bind fun ds => match ds with
  | [d] => some (.fld C f d)
  | _ => none
section
variable {c : Cc} {E : XK} {ta : TE} {ma : M D} {me : M Er} {t u : TS} {g : TG}
theorem ex_callX {t : TA} {n : Nat} {r : List D → Option D} {x : List D → Option Er} {m : M (List D)} {E' : XK} (h : Ax c t m) : Ex c (tCall (spX c.K n r x) [] E' t) (mCall n r m) := fun δ σ F H Q z S e k => by
  unfold mCall at e
  obtain ⟨ds, e1, e2⟩ := Option.bind_eq_some_iff.mp e
  split at e2
  · rename_i hl
    refine h δ σ F H _ ds S e1 fun vs F1 H1 x1 r1 => ?_
    show spX c.K n r x (vs ++ []) H1 Q E'
    rw [List.append_nil]
    exact ⟨F1, ds, x1.s, r1, hl, .inl ⟨z, e2, fun v F2 H2 x2 r2 => k v F2 H2 (x1.trans x2) r2⟩⟩
  · cases e2
theorem ex_callXS {t : TA} {n : Nat} {r : List D → Option D} {x : List D → Option Er} {m : M (List D)} {E' : St → XK} (h : Ax c t m) : Ex c (tCallS (spX c.K n r x) E' t) (mCall n r m) := fun δ σ F H Q z S e k => by
  unfold mCall at e
  obtain ⟨ds, e1, e2⟩ := Option.bind_eq_some_iff.mp e
  split at e2
  · rename_i hl
    exact h δ σ F H _ ds S e1 fun vs F1 H1 x1 r1 => ⟨F1, ds, x1.s, r1, hl, .inl ⟨z, e2, fun v F2 H2 x2 r2 => k v F2 H2 (x1.trans x2) r2⟩⟩
  · cases e2
theorem exe_call {t : TA} {n : Nat} {r : List D → Option D} {x : List D → Option Er} {m : M (List D)} (h : Ax c t m) : ExE c E (tCall (spX c.K n r x) [] E t) (mCallE n x m) := fun δ σ F H Q z S e k => by
  unfold mCallE at e
  obtain ⟨ds, e1, e2⟩ := Option.bind_eq_some_iff.mp e
  split at e2
  · rename_i hl
    refine h δ σ F H _ ds S e1 fun vs F1 H1 x1 r1 => ?_
    show spX c.K n r x (vs ++ []) H1 Q E
    rw [List.append_nil]
    exact ⟨F1, ds, x1.s, r1, hl, .inr ⟨z, e2, k.up (S.ext.trans x1)⟩⟩
  · cases e2
theorem sxe_no : SxE c E t mNoE := fun δ σ F H En e S h => by cases h
theorem sxe_seq {n : M Fl} {a b : M Er} (h1 : SxE c E t a) (h2 : Sx c t n) (h3 : SxE c E u b) : SxE c E (tSeq t u) (mSeqE a n b) := fun δ σ F H En e S h k => by
  unfold mSeqE at h
  cases q : a δ with
  | some e1 =>
    rw [q] at h
    cases h
    exact h1 δ σ F H _ e S q k
  | none =>
    rw [q] at h
    cases q2 : n δ with
    | none => rw [q2] at h; cases h
    | some fl =>
      rw [q2] at h
      cases fl with
      | nx δ1 =>
        refine h2 δ σ F H { En with nx := u En } _ S q2 fun σ1 F1 H1 S1 s1 => ?_
        exact h3 δ1 σ1 F1 H1 En e S1 h k
      | rt d => cases h
      | bk d => cases h
      | ct d => cases h
theorem sxe_expr (h : ExE c E ta me) : SxE c E (tDrop ta) me := fun δ σ F H En e S q k => h δ σ F H _ e S q k
theorem sxe_ret (h : ExE c E ta me) : SxE c E (tRet ta) me := fun δ σ F H En e S q k => h δ σ F H _ e S q k
theorem sxe_asg (h : ExE c E ta me) : SxE c E (tAsg ta g) me := fun δ σ F H En e S q k => h δ σ F H _ e S q k
theorem sxe_for {tb : TS} (h : ExE c E ta me) : SxE c E (tFor (iTup c.K ta) g tb) me := fun δ σ F H En e S q k => h δ σ F H _ e S q k
theorem sxe_if {tt : TT} {m : M Bool} {a b : M Er} (h1 : Tx c tt m) (h2 : SxE c E t a) (h3 : SxE c E u b) : SxE c E (tIfS tt t u) (mIfEr m a b) := fun δ σ F H En e S q k => by
  obtain ⟨b1, e1, e2⟩ := Option.bind_eq_some_iff.mp (show (m δ).bind (fun k => if k then a δ else b δ) = some e from q)
  refine h1 δ σ F H _ b1 S e1 fun F1 H1 x1 => ?_
  cases b1 with
  | true => exact iteT (h2 δ σ F1 H1 En e (S.up x1) e2 k)
  | false => exact iteF (h3 δ σ F1 H1 En e (S.up x1) e2 k)
theorem sxe_raise {C : Addr} {f : Str} {t : TA} {m : M (List D)} (h : Ax c t m) : SxE c E (fun _ σ H => tMkE C f t σ H fun cls d H' => E cls d H') (mRaiseE C f m) := fun δ σ F H En e S q k => by
  obtain ⟨ds, e1, e2⟩ := Option.bind_eq_some_iff.mp (show (m δ).bind _ = some e from q)
  refine h δ σ F H _ ds S e1 fun vs F1 H1 x1 r1 => ?_
  cases r1 with
  | nil => cases e2
  | cons r1 r2 =>
    cases r2 with
    | nil =>
      cases e2
      exact ⟨_, rfl, fun d hd => k F1 _ d _ ((S.ext.trans x1).trans (Ext.temp x1.s hd)) upd_same r1⟩
    | cons _ _ => cases e2
end

def runE (n : Nat) (m : M Er) (ds : List D) : Option Er := m (initD n ds)
theorem body_endX {t : TS} {m : M Fl} {e : M Er} {N : List Str} {n : Nat} {K : PySem.W.Frag} {vs : List V} {H : Hp} {Q : VK} {E : XK} (h : spX K n (runD N.length m) (runE N.length e) vs H Q E)
    (sx : ∀ F0 H0, Sx ⟨K, F0, H0⟩ t m) (se : ∀ F0 H0, SxE ⟨K, F0, H0⟩ E t e) : t { nx := fun _ H' => Q .non H', rt := Q } (L2.start N vs) H := by
  obtain ⟨F, ds, s, rl, hl, ⟨d, e1, k⟩ | ⟨x, e1, k⟩⟩ := h
  · exact body_end (E := E) ⟨F, ds, d, s, rl, hl, e1, k⟩ sx
  · exact se F H (initD N.length ds) _ F H _ x (sr_start s rl) e1 k
structure OwnX (P : Program) (w : World) (K : PySem.W.Frag) (mg : Str → Option Value) (base : Heap) (lvl : Nat) (x : Str) (n : Nat) (r : List D → Option D) (e : List D → Option Er) where
  f : Addr
  fd : FuncData
  ps : List Str
  F : FnOk P w K mg base (L2.CX P w) lvl f fd ps (spX K n r e)
  g : mg x = some (.ref f)
  k : PySem.W.keepIn K (.ref f) = true
  b : Binds K fd ps []
/-- a call of a def that may raise, in one that may -/
theorem passX {X : Cx} {E : XK} (tk : Takes X (fun cls d _ H => E cls d H)) : Passes (L2.CX X.prog X.w) X E := passes_call tk fun _ _ _ _ h => h
/-- an error class whose __init__ keeps one thing as f -/
structure OwnErr (P : Program) (w : World) (K : PySem.W.Frag) (mg : Str → Option Value) (base : Heap) (lvl : Nat) (x : Str) (C : Addr) (f : Str) where
  fI : Addr
  fd : FuncData
  ps : List Str
  T : ErrC K C
  TF : ErrF K C f
  iC : PySem.W.findIn K (.ref C) "__init__" = some (some (.ref fI))
  tI : PySem.W.typeIn K (.ref fI) = some (.type "function")
  F : FnOk P w K mg base CX0 lvl fI fd ps (spIni C f)
  b : Binds K fd ps []
  g : mg x = some (.ref C)
  me : PySem.W.exmOne K (.ref C) (.ref C) = some true
/-- a def that gives a new thing, which may be changed behind -/
def spO (K : PySem.W.Frag) (n : Nat) (r : List D → Option D) : Sp := fun vs H Q _ => ∃ (F : Hp) (ds : List D) (d : D), Same F H ∧ RpL K F vs ds ∧ ds.length = n ∧ r ds = some d ∧
  ∀ a o F' H', Ext F H F' H' → H a = none → H' a = some o → F' a = none → RpO K F' o d → Q (.ref a) H'
theorem spO_len {K : PySem.W.Frag} {n : Nat} {r : List D → Option D} {vs : List V} {H : Hp} {Q : VK} {E : XK} (h : spO K n r vs H Q E) : vs.length = n := by
  obtain ⟨F, ds, d, _, rl, hl, _⟩ := h
  rw [rl.length, hl]
theorem ox_callO {c : Cc} {t : TA} {n : Nat} {r : List D → Option D} {m : M (List D)} {E : XK} (h : Ax c t m) : Ox c (tCall (spO c.K n r) [] E t) (mCall n r m) := fun δ σ F H Q z S e k => by
  unfold mCall at e
  obtain ⟨ds, e1, e2⟩ := Option.bind_eq_some_iff.mp e
  split at e2
  · rename_i hl
    refine h δ σ F H _ ds S e1 fun vs F1 H1 x1 r1 => ?_
    show spO c.K n r (vs ++ []) H1 Q E
    rw [List.append_nil]
    refine ⟨F1, ds, z, x1.s, r1, hl, e2, fun a o F2 H2 x2 h1 h2 h3 r2 => k a o F2 H2 (x1.trans x2) ?_ h2 h3 r2⟩
    cases q : H a with
    | none => rfl
    | some u => rw [x1.h a u q] at h1; cases h1
  · cases e2
def ownAt (i : Nat) (δ : DS) : Option D := match δ[i]? with
  | some (SV.own d) => some d
  | _ => none
def runO (n i : Nat) (m : M Fl) (ds : List D) : Option D := match m (initD n ds) with
  | some (.nx δ) => ownAt i δ
  | _ => none
theorem body_endO {t : TS} {m : M Fl} {N : List Str} {n i : Nat} {K : PySem.W.Frag} {vs : List V} {H : Hp} {Q : VK} {E : XK} (h : spO K n (runO N.length i m) vs H Q E) (sx : ∀ F0 H0, Sx ⟨K, F0, H0⟩ t m) :
    tSeq t (tRet (tVar i)) { nx := fun _ H' => Q .non H', rt := Q } (L2.start N vs) H := by
  obtain ⟨F, ds, d, s, rl, hl, e, k⟩ := h
  unfold runO at e
  cases q : m (initD N.length ds) with
  | none => rw [q] at e; cases e
  | some fl =>
    rw [q] at e
    cases fl with
    | nx δ =>
      refine sx F H (initD N.length ds) _ F H _ _ (sr_start s rl) q fun σ F' H' S _ => ?_
      have e : ownAt i δ = some d := e
      unfold ownAt at e
      split at e
      · rename_i d' hd
        cases e
        obtain ⟨a, o, h1, h2, h3, h4, h5⟩ := S.own i _ hd
        exact ⟨.ref a, h1, k a o F' H' S.ext h4 h2 h3 h5⟩
      · cases e
    | rt _ => cases e
    | bk _ => cases e
    | ct _ => cases e
theorem tSeq_assoc (a b c : TS) : tSeq (tSeq a b) c = tSeq a (tSeq b c) := rfl
structure OwnO (P : Program) (w : World) (K : PySem.W.Frag) (mg : Str → Option Value) (base : Heap) (lvl : Nat) (x : Str) (n : Nat) (r : List D → Option D) where
  f : Addr
  fd : FuncData
  ps : List Str
  F : FnOk P w K mg base CX0 lvl f fd ps (spO K n r)
  g : mg x = some (.ref f)
  k : PySem.W.keepIn K (.ref f) = true
  b : Binds K fd ps []
theorem exm_same {K : PySem.W.Frag} {S : Addr} (h1 : PySem.W.subIn K (.ref S) (.type "BaseException") = some true) (h2 : PySem.W.isClsIn K S = true) (h3 : PySem.W.typeIn K (.ref S) = some (.type "type")) (h4 : PySem.W.subIn K (.ref S) (.ref S) = some true) :
    PySem.W.exmOne K (.ref S) (.ref S) = some true := by
  have a1 : (PySem.W.subIn K (.ref S) (.type "BaseException") == some true) = true := by rw [h1]; rfl
  have h2 : (PySem.W.clsIn K S).isSome = true := h2
  have a2 : ((PySem.W.clsIn K S).isSome && PySem.W.typeIn K (.ref S) == some (.type "type")) = true := by rw [h2, h3]; rfl
  refine Eq.trans (if_pos a1) ?_
  exact (if_pos a2).trans h4
end DX

/-! defs whose promise wants that no repr is under way -/
namespace DG
open PySem PySem.Spec PyProof.Rows L2 LamX DL DX DZ
structure FnG (P : Program) (w : World) (K : PySem.W.Frag) (mg : Str → Option Value) (base : Heap) (CX : CXT) (k : Nat) (f : Addr) (fd : FuncData) (ps : List Str) (sp : Sp) : Prop where
  len : ∀ vs H Q E, sp vs H Q E → vs.length = ps.length
  go : ∀ (A : Around) (outer : List Env) (s : Shared) (H : Hp) (args : Args) (us : List Value) (vs : List V) (Q : VK) (E : XK), A.guards = some [] → Room k A →
    Env0 P w K mg base A outer s H → BindsTo s fd args (ps.zip us) → Vals vs us → sp vs H Q E → codeAny (model P w) A (.call (.ref f) args) (CR CX outer P w H s Q E) s
section
variable {P : Program} {w : World} {K : PySem.W.Frag} {mg : Str → Option Value} {base : Heap} {CX : CXT} {k : Nat} {f : Addr} {fd : FuncData} {ps : List Str} {sp : Sp}
theorem FnG.of (F : FnOk P w K mg base CX k f fd ps sp) : FnG P w K mg base CX k f fd ps sp := ⟨F.len, fun A o s H ar us vs Q E _ => F.run A o s H ar us vs Q E⟩
theorem FnG.mono {j : Nat} (F : FnG P w K mg base CX j f fd ps sp) (h : j ≤ k) : FnG P w K mg base CX k f fd ps sp := ⟨F.len, fun A o s H ar us vs Q E g r => F.go A o s H ar us vs Q E g (r.mono h)⟩
end
section
variable {P : Program} {w : World} {K : PySem.W.Frag} {mg : Str → Option Value} {base : Heap}
/-- a def by its body, no repr being under way -/
theorem FunC.okG {x qual : Str} {st : Stmt} {f c : Addr} {fd : FuncData} {N ps : List Str} {k : Nat} {sp : Sp} (F : FunC K x qual st f fd c) (S : FnScope N ps (defScope st)) (len : ∀ vs H Q E, sp vs H Q E → vs.length = ps.length)
    (hb : ∀ (A : Around) (outer : List Env) (s : Shared) (H : Hp) (vs : List V) (Q : VK) (E : XK), A.guards = some [] → Room k (A.deeper (envOfC qual (defScope st) s.heap.objs.size f (.ref c))) → sp vs H Q E →
      ∃ t, PSs (cxOf CX0 P w K mg base N qual (defScope st) f (.ref c) A outer s H E).nox (defBody st) t ∧ t { nx := fun _ H' => Q .non H', rt := Q } (L2.start N vs) H) : FnG P w K mg base CX0 (k + 1) f fd ps sp := by
  obtain ⟨oc, od, kV, doc, pm, an, ct, osl, rfl, lk, hcd⟩ := F.ex
  refine ⟨len, fun A outer s H ar us vs Q E hg hr e0 bi r h => run_ofS lk hcd S hr e0 bi r (len _ _ _ _ h) fun hr2 => ?_⟩
  obtain ⟨t, ht, q⟩ := hb A outer s H vs Q E hg hr2 h
  exact ⟨t, ht.nox, q⟩
end
section
variable {X : Cx} {CX : CXT} {k : Nat} {f : Addr} {fd : FuncData} {ps : List Str} {sp : Sp} {E : XK} {x : Str} {p pos : Pos} {e : Expr} {es : List Expr} {t : TA}
theorem pe_callG (F : FnG X.prog X.w X.K X.mg X.base CX k f fd ps sp) (gd : X.A.guards = some []) (hr : Room k X.A) (hg : Gl X x) (hm : X.mg x = some (.ref f)) (hk : PySem.W.keepIn X.K (.ref f) = true) (hb : Binds X.K fd ps []) (hx : Passes CX X E)
    (ha : PA X (e :: es) t) (hdb : (x == ("__debug__" : Str)) = false := by decide) (he : starEach (e :: es) X.env = (false, eval e X.env) :: starEach es X.env := by rfl) (hpl : (backTo pos (starEach es X.env)).any (·.1) = false := by rfl) :
    PE X (.Call (.Name x p) (e :: es) [] pos) (tCall sp [] E t) := by
  refine ⟨fun pins s σ H Q I h => wpAny_Call_Name_kw (ld_glob I hg hm ?_ hdb)⟩
  refine PySem.W.callWith_K (h₀ := X.base) I.ok.mod.kin hk (thn (ha.run pos pins s σ H _ I h) fun us s1 hh => ?_) he hpl
  obtain ⟨vs, H1, I1, r, q⟩ := hh
  have q : sp (vs ++ []) H1 Q E := q
  rw [List.append_nil] at q
  have bi := hb s1 us I1.kIn (by rw [List.append_nil, ← r.length]; exact F.len _ _ _ _ q)
  rw [List.append_nil] at bi
  refine ⟨I1.kIn, wpAny_call (codeAny_mono (F.go X.A X.stack s1 H1 ⟨us, []⟩ us vs Q E gd hr I1.env0 bi r q) fun r s' hq => ?_)⟩
  match r, hq with
  | .error e, hq => exact hx pins σ H1 s1 e s' I1 hq
  | .ok (.ret u), hq => exact I1.after hq
end
/-! ### the end -/
section
variable {P : Program} {w : World} {K : PySem.W.Frag} {mg mb : Str → Option Value} {a : Addr} {cs : List (Addr × Addr)} {s₁ : Shared} {vs : List Value} {ns : List Int}
/-- what a law's call begins with: the script and the tables alone are tracked -/
theorem begin_T (KX : K.In s₁.heap) (hns : s₁.heap.Ns mainGlobals mg) (hb : s₁.heap.Ns builtinsNs mb) (hbb : ∀ x : Str, x ≠ "__name__" → mb x = bootBuiltins x) (hlim : s₁.heap.NoLimit) (hg : s₁.gens = #[])
    (hT : ∀ p ∈ cs, s₁.heap.get? p.2 = some (PySem.W.tabObj #[])) (nT : ∀ p ∈ cs, K.lookup p.2 = none) (C : ∀ p ∈ cs, PySem.W.CodeHd s₁.heap p.1 p.2)
    (hbm : ∃ (bm : Addr) (ob : Obj), mg "__builtins__" = some (.ref bm) ∧ bm ≠ builtinsNs ∧ s₁.heap.get? bm = some ob ∧ ob.cls = .type "module" ∧ ob.dict = some builtinsNs ∧ ob.data = .plain)
    (ha : s₁.heap.get? a = some { cls := .type "list", data := .seq vs.toArray }) (hi : IntsAre vs ns) (hl : ns.length ≤ sizeLine) :
    ∃ H : Hp, (∀ p ∈ cs, H p.2 = some (.tbl #[])) ∧ SqL K H a (ns.map V.int) ∧ Env0 P w K mg (hidT s₁.heap H) callerA [] s₁ H ∧ K.In (hidT s₁.heap H) ∧ (hidT s₁.heap H).Ns mainGlobals mg ∧ (∀ p ∈ cs, TabB (hidT s₁.heap H) mg p.1 p.2) ∧
      ∀ (H' : Hp) (s' : Shared), Un (frs []) [] H H' s₁.heap s'.heap → HOk P w H' s'.heap → OldK s₁.heap s'.heap := by
  let Ht : Hp := fun b => if b ∈ cs.map (·.2) then some (.tbl #[]) else none
  have tab : ∀ b ∈ cs.map (·.2), s₁.heap.get? b = some (PySem.W.tabObj #[]) := fun b m => by
    obtain ⟨p, hp, rfl⟩ := List.mem_map.mp m
    exact hT p hp
  have tabN : ∀ b ∈ cs.map (·.2), K.lookup b = none := fun b m => by
    obtain ⟨p, hp, rfl⟩ := List.mem_map.mp m
    exact nT p hp
  have na : a ∉ cs.map (·.2) := fun m => by
    have q := ha.symm.trans (tab a m)
    have z := congrArg Obj.data (Option.some.inj q)
    exact nomatch (show Data.seq vs.toArray _ = Data.fields #[] from z)
  have rv := vals_ints hi
  -- the script is tracked where the head does not know it
  let lo : HO := .frz { cls := .type "list", data := .seq vs.toArray } (.lst (ns.map V.int))
  obtain ⟨H, hH1, hH2, hH3, hS⟩ : ∃ H : Hp, (∀ b ∈ cs.map (·.2), H b = some (.tbl #[])) ∧ (∀ b, b ∉ cs.map (·.2) → H b = none ∨ (b = a ∧ H b = some lo)) ∧ (H a ≠ none → K.lookup a = none) ∧ SqL K H a (ns.map V.int) := by
    cases hk : K.lookup a with
    | none =>
      refine ⟨upd Ht a lo, fun b m => ?_, fun b m => ?_, fun _ => rfl, .inl (.inr ⟨_, upd_same⟩)⟩
      · rw [upd_ne (fun z => by rw [z] at m; exact na m)]
        exact if_pos m
      · by_cases q : b = a
        · exact .inr ⟨q, by rw [q, upd_same]⟩
        · exact .inl (by rw [upd_ne q]; exact if_neg m)
    | some o =>
      obtain rfl := Option.some.inj ((KX a o hk).symm.trans ha)
      exact ⟨Ht, fun b m => if_pos m, fun b m => .inl (if_neg m), fun n => (n (if_neg na)).elim, .inr ⟨_, vs.toArray, _, hk, rfl, rfl, rfl, by rw [List.size_toArray, hi.length]; exact hl, rv⟩⟩
  have notD : ∀ {b : Addr} {o : Obj}, s₁.heap.get? b = some o → (∀ xs n, o.data ≠ .seq xs n) → o.data ≠ .fields #[] → H b = none := fun {b o} e h1 h2 => by
    by_cases m : b ∈ cs.map (·.2)
    · have z := Option.some.inj (e.symm.trans (tab b m))
      exact (h2 (by rw [z])).elim
    · rcases hH2 b m with z | ⟨rfl, _⟩
      · exact z
      · have z := Option.some.inj (e.symm.trans ha)
        exact (h1 _ _ (by rw [z])).elim
  have keep : ∀ {b : Addr} {o : Obj}, s₁.heap.get? b = some o → (∀ xs n, o.data ≠ .seq xs n) → o.data ≠ .fields #[] → (hidT s₁.heap H).get? b = some o := fun e h1 h2 => hidT_get e (notD e h1 h2)
  have nsK : ∀ {b : Addr} {m : Str → Option Value}, s₁.heap.Ns b m → (hidT s₁.heap H).Ns b m := fun z => by
    obtain ⟨o, es, ep, e, d, r⟩ := z
    exact ⟨o, es, ep, keep e (fun _ _ z => by rw [d] at z; cases z) (fun z => by rw [d] at z; cases z), d, r⟩
  have hK : K.In (hidT s₁.heap H) := fun b o e => by
    refine hidT_get (KX b o e) ?_
    by_cases m : b ∈ cs.map (·.2)
    · rw [tabN b m] at e
      cases e
    · rcases hH2 b m with z | ⟨rfl, z⟩
      · exact z
      · rw [hH3 (by rw [z]; exact (fun q => nomatch q))] at e
        cases e
  have hok : HOk P w H s₁.heap := fun b u z => by
    by_cases m : b ∈ cs.map (·.2)
    · rw [hH1 b m] at z
      cases z
      exact tab b m
    · rcases hH2 b m with q | ⟨rfl, q⟩
      · rw [q] at z
        cases z
      · rw [q] at z
        cases z
        exact ⟨ha, by rw [List.length_map]; exact hl, vs, _, rv, ha⟩
  obtain ⟨mc, hm1, hm2⟩ := hlim
  refine ⟨H, fun p hp => hH1 _ (List.mem_map.mpr ⟨p, hp, rfl⟩), hS, ⟨rfl, ⟨hK, nsK hns, ⟨mb, nsK hb, hbb⟩, mc, nsK hm1, hm2⟩, fun b o e => of_hidT e, Nat.le_of_eq (hidT_size _ _), True.intro, (fun b m => nomatch m), hok, .of_eq hg⟩, hK, nsK hns, fun p hp => ⟨?_, ?_, fun z => ?_⟩, fun H' s' un hk' => ?_⟩
  · obtain ⟨o, us, f1, f2, f3, f4, f5, f6, f7, e1, r1, r2, r3, rs⟩ := C p hp
    refine ⟨o, us, f1, f2, f3, f4, f5, f6, f7, keep e1 (fun _ _ z => by rw [r2] at z; cases z) (fun z => ?_), r1, r2, r3, rs⟩
    rw [r2] at z
    cases z
    simp at r3
  · obtain ⟨bm, ob, b1, b2, b3, b4, b5, b6⟩ := hbm
    have pl : ∀ o : Obj, o.data ≠ .plain → s₁.heap.get? bm = some o → False := fun o n e => by
      have z := Option.some.inj (b3.symm.trans e)
      exact n (by rw [← z]; exact b6)
    refine ⟨bm, ob, b1, b2, fun q => ?_, fun q => ?_, keep b3 (fun _ _ z => by rw [b6] at z; cases z) (fun z => by rw [b6] at z; cases z), b4, b5, b6⟩
    · obtain ⟨o, es, ep, e, hd, _⟩ := hns
      exact pl o (by rw [hd]; exact fun z => nomatch z) (by rw [q]; exact e)
    · exact pl (PySem.W.tabObj #[]) (fun z => nomatch z) (by rw [q]; exact hT p hp)
  · obtain ⟨o, es, ep, e, hd, _⟩ := hns
    have q := Option.some.inj ((hT p hp).symm.trans (z ▸ e))
    rw [← q] at hd
    cases hd
  · have more : ∀ b ∈ cs.map (·.2), ∃ xs : Array Value, s'.heap.get? b = some (PySem.W.tabObj xs) := fun b m => by
      obtain ⟨xs, z⟩ := un.tbls b #[] (hH1 b m)
      exact ⟨_, hk' b _ z⟩
    have same : ∀ b o, b ∉ cs.map (·.2) → s₁.heap.get? b = some o → s'.heap.get? b = some o := fun b o m e => by
      rcases hH2 b m with z | ⟨rfl, z⟩
      · exact un.keep b o e z (fun q => absurd q List.not_mem_nil) (fun q => absurd q List.not_mem_nil)
      · obtain ⟨e1, _⟩ := hk' b _ (un.frzs b _ _ z)
        rw [← e, ha]
        exact e1
    refine ⟨fun b o e => ?_, fun b o e => ?_⟩
    · by_cases m : b ∈ cs.map (·.2)
      · obtain ⟨p, hp, rfl⟩ := List.mem_map.mp m
        obtain ⟨xs, hx⟩ := more _ m
        have z := Option.some.inj (e.symm.trans (hT p hp))
        subst z
        exact .inr (.inl ⟨((C p hp).tab (hT p hp)).isCodeTable, rfl, #[], xs, rfl, by rw [Array.empty_append]; exact hx⟩)
      · exact .inl (same b o m e)
    · by_cases m : b ∈ cs.map (·.2)
      · obtain ⟨xs, hx⟩ := more _ m
        exact ⟨_, hx⟩
      · exact ⟨o, same b o m e⟩
end
end DG

/-! hand rules: zip of a list and a tuple -/
namespace DL
open PySem PySem.Spec L2
section
variable {P : Program} {w : World} {K : PySem.W.Frag}
/-- what zip walks: a list and a tuple -/
def Izm (K : PySem.W.Frag) (a b : Addr) : It where
  go := fun i H => ∃ (xs ys : List V) (x y : V), SqL K H a xs ∧ SqT K H b ys ∧ xs[i]? = some x ∧ ys[i]? = some y
  yld := fun i H v H' => ∃ T x y, v = .ref T ∧ H T = none ∧ H' = upd H T (.tup [x, y]) ∧ (∀ xs : List V, SqL K H a xs → xs[i]? = some x) ∧ ∀ ys : List V, SqT K H b ys → ys[i]? = some y
  stop := fun i H => ∃ xs ys : List V, SqL K H a xs ∧ SqT K H b ys ∧ i ≤ xs.length ∧ i ≤ ys.length ∧ (i = xs.length ∨ i = ys.length)
def StZm (a b z TI TO i1 i2 : Addr) : Nat → Heap → Prop := fun i h => IsZip h z TI TO .none ∧ IsTupOf2 h TI (.ref i1) (.ref i2) ∧ (∃ x y, IsTupOf2 h TO x y) ∧ h.IsListIter i1 a i ∧ h.IsTupleIter i2 b i
theorem zm_sep {h : Heap} {a b z TI TO i1 i2 : Addr} {i : Nat} {xs ys : Array Value} (hne : i1 ≠ i2 ∧ TI ≠ TO) (st : StZm a b z TI TO i1 i2 i h) (la : h.IsList a xs) (lb : h.IsTuple b ys) (hb : b ≠ TO ∧ b ≠ TI) : ZipSep2 z TI TO i1 i2 [i1, a] [i2, b] := by
  obtain ⟨h1, h2, ⟨x, y, h3⟩, ⟨o4, h4, c4, _⟩, ⟨o5, h5, c5, _⟩⟩ := st
  obtain ⟨oa, ha, ca, _⟩ := la
  obtain ⟨ob, hb', cb, _⟩ := lb
  have df : ∀ {p q : Addr} {o o' : Obj} {c c' : String}, h.get? p = some o → h.get? q = some o' → o.cls = .type c → o'.cls = .type c' → c ≠ c' → p ≠ q := by
    intro p q o o' c c' e1 e2 k1 k2 k e
    subst e
    rw [e1] at e2
    cases e2
    rw [k1] at k2
    exact k (Value.type.inj k2)
  exact {
    TIz := df h2 h1 rfl rfl (by decide)
    TOz := df h3 h1 rfl rfl (by decide)
    TITO := hne.2
    TIi1 := df h2 h4 rfl c4 (by decide)
    mem1 := by simp
    zf1 := by
      have q1 := df h1 h4 rfl c4 (by decide)
      have q2 := df h1 ha rfl ca (by decide)
      simp; exact ⟨q1, q2⟩
    Tf1 := by
      have q1 := df h3 h4 rfl c4 (by decide)
      have q2 := df h3 ha rfl ca (by decide)
      simp; exact ⟨q1, q2⟩
    TIi2 := df h2 h5 rfl c5 (by decide)
    mem2 := by simp
    zf2 := by
      have q1 := df h1 h5 rfl c5 (by decide)
      have q2 := df h1 hb' rfl cb (by decide)
      simp; exact ⟨q1, q2⟩
    Tf2 := by
      have q1 := df h3 h5 rfl c5 (by decide)
      have q2 := Ne.symm hb.1
      simp; exact ⟨q1, q2⟩
    sep1_2 := by
      have q1 := hne.1
      have q2 := df h4 hb' c4 cb (by decide)
      simp; exact ⟨q1, q2⟩
    sep2_1 := by
      have q1 := Ne.symm hne.1
      have q2 := df h5 ha c5 ca (by decide)
      simp; exact ⟨q1, q2⟩ }
theorem cls_ne {h : Heap} {p q : Addr} {o o' : Obj} {c c' : String} (e1 : h.get? p = some o) (e2 : h.get? q = some o') (k1 : o.cls = .type c) (k2 : o'.cls = .type c') (k : c ≠ c') : p ≠ q := by
  intro e
  subst e
  rw [e1] at e2
  cases e2
  rw [k1] at k2
  exact k (Value.type.inj k2)
theorem turn_zm {elts : List Expr} {kk : Nat} {tpos : Pos} {a b z TI TO i1 i2 : Addr} (hne : i1 ≠ i2 ∧ TI ≠ TO) (hb : b ≠ TO ∧ b ≠ TI) :
    Turn P w K (.Tuple elts kk tpos) (Izm K a b) [z, TI, TO, i1, i2] z (StZm a b z TI TO i1 i2) where
  mem := by simp
  obj := fun i h ⟨h1, h2, ⟨x, y, h3⟩, ⟨o4, h4, _, d4⟩, ⟨o5, h5, _, d5⟩⟩ c hc => by
    have e' : c = z ∨ c = TI ∨ c = TO ∨ c = i1 ∨ c = i2 := by simpa using hc
    rcases e' with rfl | rfl | rfl | rfl | rfl
    · exact ⟨_, h1, fun v q => nomatch q⟩
    · exact ⟨_, h2, fun v q => nomatch q⟩
    · exact ⟨_, h3, fun v q => nomatch q⟩
    · exact ⟨o4, h4, fun v q => by rw [d4] at q; cases q⟩
    · exact ⟨o5, h5, fun v q => by rw [d5] at q; cases q⟩
  keep := fun i h h' ⟨h1, h2, ⟨x, y, h3⟩, ⟨o4, h4, c4, d4⟩, ⟨o5, h5, c5, d5⟩⟩ k =>
    ⟨k z (by simp) _ h1, k TI (by simp) _ h2, ⟨x, y, k TO (by simp) _ h3⟩, ⟨o4, k i1 (by simp) _ h4, c4, d4⟩, ⟨o5, k i2 (by simp) _ h5, c5, d5⟩⟩
  item := fun X hP hw hK hc i pins s σ H E I fo tn hg => by
    subst hP hw hK
    obtain ⟨xs, ys, x, y, hqx, hqy, hx, hy⟩ := hg
    obtain ⟨its, rv, pl, _⟩ := I.list hqx
    obtain ⟨its2, rv2, pt, _⟩ := I.tuple hqy
    have S := zm_sep hne tn pl.isList pt hb
    obtain ⟨h1, h2, ⟨u0, w0, h3⟩, h4, h5⟩ := tn
    have ne1 : a ≠ i1 := fun e => by
      obtain ⟨o, e1, c1, _⟩ := pl.isList
      obtain ⟨o4, e4, c4, _⟩ := h4
      exact cls_ne e1 e4 c1 c4 (by decide) e
    have ne2 : b ≠ i2 := fun e => by
      obtain ⟨o, e1, c1, _⟩ := pt
      obtain ⟨o4, e4, c4, _⟩ := h5
      exact cls_ne e1 e4 c1 c4 (by decide) e
    have hd : X.A.in1.handled = none := I.ok.hd hc
    have l1 : i < its.toArray.size := by
      have := (List.getElem?_eq_some_iff.mp hx).1
      rw [List.size_toArray, ← rv.length]; exact this
    have l2 : i < its2.toArray.size := by
      have := (List.getElem?_eq_some_iff.mp hy).1
      rw [List.size_toArray, ← rv2.length]; exact this
    have lz : z < s.heap.objs.size := Heap.lt_size h1
    have lTI : TI < s.heap.objs.size := Heap.lt_size h2
    have lTO : TO < s.heap.objs.size := Heap.lt_size h3
    have li1 : i1 < s.heap.objs.size := by obtain ⟨o, e, _⟩ := h4; exact Heap.lt_size e
    have li2 : i2 < s.heap.objs.size := by obtain ⟨o, e, _⟩ := h5; exact Heap.lt_size e
    refine wpAny_pyNext_zipD2_item S (Draws.list hd i1 a ne1 its.toArray) (Draws.tuple hd i2 b ne2 its2.toArray) h1 h2 h3 ⟨h4, pl.isList⟩ ⟨h5, pt⟩ l1 l2 fun x1 x2 h' tk y1 y2 z1 z2 z3 z4 z5 z6 z7 => ?_
    refine ⟨_, rfl, ?_⟩
    refine wpAny_letOwnedTupleGo_zip z1 fun h'' he hsb => ?_
    obtain ⟨v1, g1, r1⟩ := vals_get (u := x1) rv (by rw [← List.getElem?_toArray]; exact y1)
    obtain ⟨v2, g2, r2⟩ := vals_get (u := x2) rv2 (by rw [← List.getElem?_toArray]; exact y2)
    have hT : h''.get? s.heap.objs.size = some { cls := .type "tuple", data := .seq #[x1, x2] } := by rw [hsb.2 _ (Nat.ne_of_gt lz)]; exact z5
    have J : Inv X pins σ (upd H s.heap.objs.size (.tup [v1, v2])) { heap := h'', gens := s.gens, drawn := s.drawn, toks := tk, os := s.os } := by
      refine I.turnedNew (ch := [z, TI, TO, i1, i2]) (fun c o hn q => ?_) (fun c q => fo c q) (Nat.le_refl _) ?_
      · have a1 : c ≠ z := fun e => hn (by simp [e])
        have a2 : c ≠ TO := fun e => hn (by simp [e])
        have a3 : c ≠ i1 := fun e => hn (by simp [e])
        have a4 : c ≠ i2 := fun e => hn (by simp [e])
        rw [hsb.2 c a1]; exact z7 c o a1 a2 a3 a4 q
      · exact ⟨by show 2 ≤ sizeLine; decide, [x1, x2], .cons r1 (.cons r2 .nil), ⟨_, hT, rfl, _, rfl⟩⟩
    refine ⟨.ref s.heap.objs.size, _, J, rfl, ⟨_, v1, v2, rfl, I.hok.fresh (Nat.le_refl _), rfl, fun us hu => ?_, fun us hu => ?_⟩, ⟨he, ?_, ⟨x1, x2, ?_⟩, ?_, ?_⟩, fun c q => ?_⟩
    · rw [I.list_inj hu hqx]; exact g1
    · obtain rfl := sqt_uniq I hqy hu
      exact g2
    · exact (hsb.2 TI S.TIz).trans (z7 TI _ S.TIz S.TITO S.TIi1 S.TIi2 h2)
    · exact (hsb.2 TO S.TOz).trans z2
    · obtain ⟨o, e1, e2, e3⟩ := z3.1
      exact ⟨o, by rw [hsb.2 i1 (Ne.symm S.zi1)]; exact e1, e2, e3⟩
    · obtain ⟨o, e1, e2, e3⟩ := z4.1
      exact ⟨o, by rw [hsb.2 i2 (Ne.symm S.zi2)]; exact e1, e2, e3⟩
    · have lc : c < s.heap.objs.size := by
        have e' : c = z ∨ c = TI ∨ c = TO ∨ c = i1 ∨ c = i2 := by simpa using q
        rcases e' with rfl | rfl | rfl | rfl | rfl <;> assumption
      rw [upd_ne (Nat.ne_of_lt lc)]; exact (fo c q).1
  done := fun X hP hw hK hc i pins s σ H E I fo tn hs => by
    subst hP hw hK
    obtain ⟨xs, ys, hqx, hqy, hx, hy, he⟩ := hs
    obtain ⟨its, rv, pl, _⟩ := I.list hqx
    obtain ⟨its2, rv2, pt, _⟩ := I.tuple hqy
    have S := zm_sep hne tn pl.isList pt hb
    obtain ⟨h1, h2, ⟨u0, w0, h3⟩, h4, h5⟩ := tn
    have ne1 : a ≠ i1 := fun e => by
      obtain ⟨o, e1, c1, _⟩ := pl.isList
      obtain ⟨o4, e4, c4, _⟩ := h4
      exact cls_ne e1 e4 c1 c4 (by decide) e
    have ne2 : b ≠ i2 := fun e => by
      obtain ⟨o, e1, c1, _⟩ := pt
      obtain ⟨o4, e4, c4, _⟩ := h5
      exact cls_ne e1 e4 c1 c4 (by decide) e
    have hd : X.A.in1.handled = none := I.ok.hd hc
    refine wpAny_pyNext_zipD2_end S (Draws.list hd i1 a ne1 its.toArray) (Draws.tuple hd i2 b ne2 its2.toArray) h1 h2 h3 ⟨h4, pl.isList⟩ ⟨h5, pt⟩ ?_ ?_ ?_ fun h' tk hk => ⟨rfl, ?_⟩
    · rw [List.size_toArray, ← rv.length]; exact hx
    · rw [List.size_toArray, ← rv2.length]; exact hy
    · rw [List.size_toArray, ← rv.length, List.size_toArray, ← rv2.length]; exact he
    · exact I.turnedL (t' := tk) (ch := [z, TI, TO, i1, i2]) (fun c o hn q => hk c o (fun e => hn (by simp [e])) (fun e => hn (by simp [e])) (fun e => hn (by simp [e])) (fun e => hn (by simp [e])) q) fun c q => fo c q
  self := fun A i s Q E tn q => wpAny_pyIter_zip tn.1 q
def iZipM (K : PySem.W.Frag) (ta : TA) : TI := fun σ H R => ta σ H fun vs H1 => ∃ a b xs ys, vs = [.ref a, .ref b] ∧ SqL K H1 a xs ∧ SqT K H1 b ys ∧ R (Izm K a b) H1
theorem pi_zipM {X : Cx} {e e2 : Expr} {ta : TA} {p pos tpos : Pos} {elts : List Expr} {kk : Nat} (hg : Gl X "zip") (hm : X.mg "zip" = none) (ha : PA X [e, e2] ta)
    (hs : starEach [e, e2] X.env = (false, eval e X.env) :: starEach [e2] X.env := by rfl) (hpl : (backTo pos (starEach [e2] X.env)).any (·.1) = false := by rfl) :
    PI X (.Tuple elts kk tpos) (.Call (.Name "zip" p) [e, e2] [] pos) (iZipM X.K ta) := by
  refine ⟨fun pins s σ H R I h => ?_⟩
  have hn : PE X (.Name "zip" p) (tC (.ty "zip")) := pe_bltn hg hm (by decide +kernel) rfl
  refine wpAny_Call_NameR (thn (hn.run pins s σ H (fun v H' => v = .ty "zip" ∧ H' = H) I ⟨rfl, rfl⟩) fun f s1 ⟨v, H0, I0, rv, e1, e3⟩ => ?_)
  subst e1 e3
  cases rv
  refine PyProof.Rows.callWith_type1 (thn (ha.run pos pins s1 σ H0 _ I0 h) fun us s2 ⟨vs, H1, I1, r1, a, b, xs, ys, e4, hqx, hqy, r⟩ => ?_) hs hpl
  subst e4
  cases r1 with
  | cons ra rr =>
  cases rr with
  | cons rb rr =>
  cases rr
  cases ra
  cases rb
  obtain ⟨its, rv, pl, _⟩ := I1.list hqx
  obtain ⟨its2, rv2, pt, _⟩ := I1.tuple hqy
  have lb : b < s2.heap.objs.size := by obtain ⟨o, e, _⟩ := pt; exact Heap.lt_size e
  refine zip_begins2 (begins_list a its.toArray) (begins_tuple b its2.toArray) pl.isList pt fun h' z1 z2 z3 z4 z5 z6 z7 => wpAny_pyIter_zip z1 ?_
  have I2 : Inv X pins σ H1 { heap := h', gens := s2.gens, drawn := s2.drawn, toks := s2.toks, os := s2.os } := I1.kept (t' := s2.toks) z7
  refine ⟨s2.heap.objs.size + 4, [s2.heap.objs.size + 4, s2.heap.objs.size + 2, s2.heap.objs.size + 3, s2.heap.objs.size, s2.heap.objs.size + 1], _, _, H1, rfl, I2,
    turn_zm (a := a) (b := b) ⟨Nat.ne_of_lt (Nat.lt_succ_self _), Nat.ne_of_lt (Nat.lt_succ_self _)⟩ ⟨Nat.ne_of_lt (Nat.lt_of_lt_of_le lb (Nat.le_add_right _ _)), Nat.ne_of_lt (Nat.lt_of_lt_of_le lb (Nat.le_add_right _ _))⟩,
    ⟨z1, z2, ⟨_, _, z3⟩, ⟨_, z4, rfl, rfl⟩, ⟨_, z5, rfl, rfl⟩⟩, fun c hc => ?_, r⟩
  have ge : s2.heap.objs.size ≤ c := by
    have e' : c = s2.heap.objs.size + 4 ∨ c = s2.heap.objs.size + 2 ∨ c = s2.heap.objs.size + 3 ∨ c = s2.heap.objs.size ∨ c = s2.heap.objs.size + 1 := by simpa using hc
    rcases e' with q | q | q | q | q <;> (rw [q]; first | exact Nat.le_add_right _ _ | exact Nat.le_refl _)
  exact I1.fpOk ge (I1.hok.fresh ge)
end
end DL

/-! zip of a list and a tuple, by values -/
namespace DL
open PySem PySem.Spec L2
section
variable {c : Cc} {ta : TA} {ma : M (List D)}
def zipD : List D → List D → List D
  | d :: ds, e :: es => .tup [d, e] :: zipD ds es
  | _, _ => []
theorem zipD_get : ∀ (ds es : List D) (j : Nat) (d : D), (zipD ds es)[j]? = some d → ∃ p q, ds[j]? = some p ∧ es[j]? = some q ∧ d = .tup [p, q]
  | [], _, j, d, h => by simp [zipD] at h
  | _ :: _, [], j, d, h => by simp [zipD] at h
  | p :: ds, q :: es, 0, d, h => by simp [zipD] at h; exact ⟨p, q, rfl, rfl, h.symm⟩
  | p :: ds, q :: es, j + 1, d, h => by
    obtain ⟨p', q', h1, h2, h3⟩ := zipD_get ds es j d (by simpa [zipD] using h)
    exact ⟨p', q', by simpa using h1, by simpa using h2, h3⟩
theorem zipD_len : ∀ ds es : List D, (zipD ds es).length = min ds.length es.length
  | [], es => by simp [zipD]
  | _ :: _, [] => by simp [zipD]
  | d :: ds, e :: es => by simp [zipD, zipD_len ds es]
theorem its_zipM {K : PySem.W.Frag} {F : Hp} {a b : Addr} {xs ys : List V} {ds es : List D} (h1 : F a = some (.lst xs)) (r1 : RpL K F xs ds) (h2 : SqT K F b ys) (r2 : RpL K F ys es) : Its K (Izm K a b) F (zipD ds es) where
  go := fun i F' H s1 s2 hi => by
    rw [zipD_len, ← r1.length, ← r2.length] at hi
    have l1 : i < xs.length := by omega
    have l2 : i < ys.length := by omega
    exact ⟨xs, ys, xs[i], ys[i], SqL.of (s2 _ _ (s1 _ _ h1)), same_seqT s2 (same_seqT s1 h2), by simp [l1], by simp [l2]⟩
  stop := fun F' H s1 s2 => ⟨xs, ys, SqL.of (s2 _ _ (s1 _ _ h1)), same_seqT s2 (same_seqT s1 h2), by rw [zipD_len, ← r1.length, ← r2.length]; omega, by rw [zipD_len, ← r1.length, ← r2.length]; omega, by rw [zipD_len, ← r1.length, ← r2.length]; omega⟩
  yld := fun i F' H x H' d s1 s2 hd hy => by
    obtain ⟨T, p, q, rfl, hT, rfl, hp, hq⟩ := hy
    obtain ⟨dp, dq, e1, e2, rfl⟩ := zipD_get ds es i d hd
    obtain ⟨v, g1, q1⟩ := r1.get e1
    obtain ⟨u, g2, q2⟩ := r2.get e2
    have z1 := hp xs (SqL.of (s2 _ _ (s1 _ _ h1)))
    have z2 := hq ys (same_seqT s2 (same_seqT s1 h2))
    rw [g1] at z1; cases z1
    rw [g2] at z2; cases z2
    have xx := Ext.laid (o := .tup [p, q]) s2 hT
    exact ⟨upd F' T (.tup [p, q]), xx, .obj upd_same (.tup (.cons ((q1.mono s1).mono xx.f) (.cons ((q2.mono s1).mono xx.f) .nil)))⟩
def mItZM (m : M (List D)) : M (List D) := fun δ => (m δ).bind fun l => match l with
  | [d, e] => (lstD d).bind fun ds => (tupD e).map (zipD ds)
  | _ => none
theorem wx_zipM (h : Ax c ta ma) : Wx c (iZipM c.K ta) (mItZM ma) := fun δ σ F H R ds S e k => by
  obtain ⟨l, e1, e2⟩ := Option.bind_eq_some_iff.mp (show (ma δ).bind _ = some ds from e)
  refine h δ σ F H _ _ S e1 fun vs F' H' x r => ?_
  cases r with
  | nil => cases e2
  | cons p1 r =>
  cases r with
  | nil => cases e2
  | cons p2 r =>
  cases r with
  | cons _ _ => cases e2
  | nil =>
    obtain ⟨es, e3, e4⟩ := Option.bind_eq_some_iff.mp e2
    obtain ⟨fs, e5, rfl⟩ := Option.map_eq_some_iff.mp e4
    obtain rfl := lstD_ok e3
    obtain ⟨a, xs, rfl, h1, rl⟩ := rp_lst p1
    obtain ⟨b, ys, rfl, h2, rl2⟩ := tupD_ok p2 e5
    exact ⟨a, b, xs, ys, rfl, SqL.of (x.s _ _ h1), same_seqT x.s h2, k _ F' H' x (its_zipM h1 rl h2 rl2)⟩
end
end DL

/-! comprehensions whose items are drawn -/
namespace DN
open PySem PySem.Spec PyProof.Rows L2 DL
/-- all grows, and the dice may change -/
structure DX (a : Addr) (F H F' H' : Hp) : Prop where
  x : Ext F (hideH a H) F' (hideH a H')
  d : DiceAt H' a
  f : F' a = none
section
variable {K : PySem.W.Frag} {F0 H0 F H F' H' F2 H2 : Hp} {a : Addr} {σ : L2.St} {ρ ρ' : DS}
theorem DX.trans (x : DX a F H F' H') (y : DX a F' H' F2 H2) : DX a F H F2 H2 := ⟨x.x.trans y.x, y.d, y.f⟩
theorem DX.off (s : Same F H) (f : F a = none) (o : Off a H H') (d : DiceAt H' a) : DX a F H F H' := ⟨ext_off s f o, d, f⟩
theorem DX.of (x : Ext F H F' H') (d : DiceAt H a) (f : F a = none) : DX a F H F' H' := by
  obtain ⟨l, m, k, d⟩ := d
  have f' : F' a = none := x.n a _ f d rfl
  refine ⟨⟨x.f, fun b o h => ?_, fun b o h => ?_, fun b o h1 h2 h3 => ?_⟩, ⟨l, m, k, x.h _ _ d⟩, f'⟩
  · obtain ⟨h1, h2⟩ := hide_ne h
    exact hide_of h1 (x.h b o h2)
  · exact hide_of (fun z => by subst z; rw [f'] at h; cases h) (x.s b o h)
  · exact x.n b o h1 (hide_ne h2).2 h3
theorem DX.keep (y : DX a F H F' H') {b : Addr} {o : HO} (hb : b ≠ a) (h : H b = some o) : H' b = some o := (hide_ne (y.x.h b o (hide_of hb h))).2
theorem DX.non (y : DX a F H F' H') {b : Addr} {o : HO} (hb : b ≠ a) (h : H b = some o) (hF : F b = none) (ho : tupO o = false) : F' b = none := y.x.n b o hF (hide_of hb h) ho
theorem DX.s (y : DX a F H F' H') : Same F' H' := fun b o h => (hide_ne (y.x.s b o h)).2
theorem DX.laid (s : Same F H) (d : DiceAt H a) (f : F a = none) {p : Addr} {o : HO} (hp : H p = none) : DX a F H (L2.upd F p o) (L2.upd H p o) := DX.of (Ext.laid s hp) d f
theorem DX.refl (s : Same F H) (d : DiceAt H a) (f : F a = none) : DX a F H F H := DX.of (Ext.refl s) d f
theorem DR.dx (S : DR K F0 H0 a F H σ ρ) (y : DX a F H F' H') : DR K F0 H0 a F' H' σ ρ := S.draw y.x y.d y.f
theorem DR.self (S : DR K F0 H0 a F H σ ρ) : DX a F H F H := DX.refl S.s S.at S.fr
theorem DR.exX {t : TE} {m : M D} (hx : ∀ F0 H0, Ex ⟨K, F0, H0⟩ t m) (hi : Irr m) {d : D} (e : m (.unk :: ρ) = some d) (S : DR K F0 H0 a F H σ ρ) {Q : VK} (k : ∀ v F' H', DX a F H F' H' → Rp K F' v d → Q v H') : t σ H Q := by
  have d0 := S.at
  have f0 := S.fr
  obtain ⟨h0, l, m', k', S⟩ := S
  exact hx _ _ _ σ F H Q d S (hi.at e _) fun v F' H' x r => k v F' H' (DX.of x d0 f0) r
theorem DR.rollX (S : DR K F0 H0 a F H σ ρ) {n : Int} (h0 : 0 < n) (h1 : n < 1073741824) {Q : VK} {E : XK} (k : ∀ (r : Int) H', 0 ≤ r → r < n → DX a F H F H' → Q (.int r) H') : spRoll [.ref a, .int n] H Q E :=
  ⟨a, n, Eq.refl _, S.at, h0, h1, fun r H' r0 r1 d o => k r H' r0 r1 (DX.off S.s S.fr o d)⟩
theorem DR.wipe1 (S : DR K F0 H0 a F H σ ρ) (i : Nat) : DR K F0 H0 a F H (L2.wipe σ [i + 1]) (ρ.set i .unk) := by
  obtain ⟨h0, l, m, k, S⟩ := S
  exact ⟨h0, l, m, k, S.wipes [i + 1]⟩
/-- [.. for name in ..]: the items are drawn -/
theorem DR.lc {i : Nat} {wi : TI} {w : M (List D)} {te : TE} {R : D → D → Prop} {ds : List D} (hw : ∀ F0 H0, Wx ⟨K, F0, H0⟩ wi w) (hi : Irr w) (e : w (.unk :: ρ) = some ds) (hl : ds.length < sizeLine) (S : DR K F0 H0 a F H σ ρ)
    (el : ∀ d ∈ ds, ∀ (F H : Hp) (σ : L2.St), DR K F0 H0 a F H σ ((ρ.set i .unk).set i (.fro d)) → ∀ Q : VK, (∀ v e F' H', R d e → DX a F H F' H' → Rp K F' v e → Q v H') → te σ H Q)
    {Q : VK} (k : ∀ A xs es F' H', es.length = ds.length → (∀ (j : Nat) d e, ds[j]? = some d → es[j]? = some e → R d e) → DX a F H F' H' → A ≠ a → H' A = some (.lst xs) → F' A = none → H A = none → RpL K F' xs es → Q (.ref A) H') :
    tLc wi (gName (i + 1)) tYes te [i + 1] σ H Q := by
  have d0 := S.at
  have f0 := S.fr
  have S' := S
  obtain ⟨h0, l, m', k', T⟩ := S
  refine hw _ _ _ σ F H _ ds T (hi.at e _) fun J F1 H1 x1 it A hA => ?_
  have y1 : DX a F H F1 H1 := DX.of x1 d0 f0
  have hAa : A ≠ a := fun z => by
    obtain ⟨l, m, k, q⟩ := y1.d
    rw [z, q] at hA; cases hA
  have hHA : H A = none := by
    cases q : H A with
    | none => exact Eq.refl _
    | some u => rw [x1.h A u q] at hA; cases hA
  have yA : DX a F1 H1 F1 (L2.upd H1 A (.lst [])) := DX.of (Ext.temp x1.s hA) y1.d y1.f
  refine ⟨fun i' n H' => n = ds.length - i' ∧ i' ≤ ds.length ∧ ∃ F' acc out, DX a F1 H1 F' H' ∧ F' A = none ∧ H' A = some (.lst acc) ∧ RpL K F' acc out ∧ out.length = i' ∧ (∀ (j : Nat) d e, ds[j]? = some d → out[j]? = some e → R d e),
    ⟨ds.length, by simp, Nat.zero_le _, F1, [], [], yA, none_of x1.s hA, upd_same, .nil, Eq.refl _, fun j d e _ q => by simp at q⟩, ?_⟩
  rintro i' n H2 ⟨rfl, hi', F2, acc, out, y2, hF2, hH2, rl, ho, hR⟩
  have hacc : acc.length = i' := by rw [rl.length, ho]
  have sF : Same F1 F2 := y2.x.f
  by_cases hlt : i' < ds.length
  · refine .inr ⟨it.go i' F2 H2 sF y2.s hlt, ?_⟩
    have hd : ds[i']? = some ds[i'] := by simp [hlt]
    refine ⟨fun H' => ∃ F' acc out, DX a F1 H1 F' H' ∧ F' A = none ∧ H' A = some (.lst acc) ∧ RpL K F' acc out ∧ out.length = i' + 1 ∧ (∀ (j : Nat) d e, ds[j]? = some d → out[j]? = some e → R d e), fun H' z => ⟨_, by omega, Eq.refl _, hlt, z⟩, fun x H3 yl => ?_⟩
    obtain ⟨F3, x3, r3⟩ := it.yld i' F2 H2 x H3 _ sF y2.s hd yl
    have y3 : DX a F2 H2 F3 H3 := DX.of x3 y2.d y2.f
    have S3 : DR K F0 H0 a F3 H3 (L2.wipe σ [i + 1]) (ρ.set i .unk) := (((S'.dx y1).dx y2).dx y3).wipe1 i
    have hF3 : F3 A = none := y3.non hAa hH2 hF2 (Eq.refl _)
    have hH3 : H3 A = some (.lst acc) := y3.keep hAa hH2
    refine ⟨?_, ?_⟩
    · show (((σ.set (i + 1) none).set (i + 1) (some x)).set (i + 1) none) = σ.set (i + 1) none
      rw [List.set_set, List.set_set]
    · unfold tYes
      dsimp only
      rw [if_pos (Eq.refl true)]
      refine el _ (List.getElem_mem hlt) F3 H3 _ (S3.set r3) _ fun v e F4 H4 hr y4 r4 => ?_
      have hF4 : F4 A = none := y4.non hAa hH3 hF3 (Eq.refl _)
      have hH4 : H4 A = some (.lst acc) := y4.keep hAa hH3
      have y5 := (y2.trans y3).trans y4
      have y6 : DX a F1 H1 F4 (L2.upd H4 A (.lst (acc ++ [v]))) := by
        refine ⟨⟨y5.x.f, fun b o z => ?_, fun b o z => ?_, y5.x.n⟩, ?_, y5.f⟩
        · have hb : b ≠ A := fun q => by subst q; rw [(hide_ne z).2] at hA; cases hA
          obtain ⟨q1, q2⟩ := hide_ne (y5.x.h b o z)
          exact hide_of q1 (by rw [upd_ne hb]; exact q2)
        · have hb : b ≠ A := fun q => by subst q; rw [hF4] at z; cases z
          obtain ⟨q1, q2⟩ := hide_ne (y5.x.s b o z)
          exact hide_of q1 (by rw [upd_ne hb]; exact q2)
        · obtain ⟨l, m, k, q⟩ := y5.d
          exact ⟨l, m, k, by rw [upd_ne (Ne.symm hAa)]; exact q⟩
      refine ⟨acc, hH4, by omega, F4, acc ++ [v], out ++ [e], y6, hF4, upd_same, ((rl.mono x3.f).mono y4.x.f).app (.cons r4 .nil), by rw [List.length_append, ho]; exact Eq.refl _, fun j d e' q1 q2 => ?_⟩
      by_cases hj : j < out.length
      · rw [List.getElem?_append_left hj] at q2
        exact hR j d e' q1 q2
      · have hj' : out.length ≤ j := Nat.le_of_not_lt hj
        rw [List.getElem?_append_right hj'] at q2
        cases hz : j - out.length with
        | zero =>
          rw [hz] at q2
          have hj2 : j = i' := by omega
          subst hj2
          rw [hd] at q1
          cases q1
          have q2 : some e = some e' := q2
          cases q2
          exact hr
        | succ m => rw [hz] at q2; simp at q2
  · have hn : i' = ds.length := by omega
    refine .inl ⟨by rw [hn]; exact it.stop F2 H2 sF y2.s, ?_⟩
    exact k A acc out F2 H2 (by rw [ho, hn]) hR (y1.trans y2) hAa hH2 hF2 hHA rl
end
end DN

/-! expressions that draw: what they may give -/
namespace DN
open PySem PySem.Spec PyProof.Rows L2 DL
section
variable {K : PySem.W.Frag} {F0 H0 : Hp} {a : Addr} {ρ ρ' : DS}
def RX (K : PySem.W.Frag) (F0 H0 : Hp) (a : Addr) (ρ : DS) (t : TE) (R : D → Prop) : Prop := ∀ (F H : Hp) (σ : L2.St), DR K F0 H0 a F H σ ρ → ∀ Q : VK, (∀ v d F' H', R d → DX a F H F' H' → Rp K F' v d → Q v H') → t σ H Q
def RA (K : PySem.W.Frag) (F0 H0 : Hp) (a : Addr) (ρ : DS) (t : TA) (R : List D → Prop) : Prop := ∀ (F H : Hp) (σ : L2.St), DR K F0 H0 a F H σ ρ → ∀ Q : List V → Hp → Prop, (∀ vs ds F' H', R ds → DX a F H F' H' → RpL K F' vs ds → Q vs H') → t σ H Q
/-- .. a new thing -/
def RO (K : PySem.W.Frag) (F0 H0 : Hp) (a : Addr) (ρ : DS) (t : TE) (R : D → Prop) : Prop := ∀ (F H : Hp) (σ : L2.St), DR K F0 H0 a F H σ ρ → ∀ Q : VK, (∀ A o d F' H', R d → DX a F H F' H' → A ≠ a → H A = none → H' A = some o → F' A = none → RpO K F' o d → Q (.ref A) H') → t σ H Q
variable {t ta tb : TE} {u : TA} {R Ra Rb Rz : D → Prop} {RL : List D → Prop}
theorem RX.imp (h : RX K F0 H0 a ρ t R) (k : ∀ d, R d → Rz d) : RX K F0 H0 a ρ t Rz := fun F H σ S Q q => h F H σ S Q fun v d F' H' r => q v d F' H' (k d r)
theorem RX.of {m : M D} (hx : ∀ F0 H0, Ex ⟨K, F0, H0⟩ t m) (hi : Irr m) {d : D} (e : m (.unk :: ρ) = some d) : RX K F0 H0 a ρ t (fun z => z = d) := fun F H σ S Q k =>
  DR.exX hx hi e S fun v F' H' y r => k v d F' H' (Eq.refl _) y r
theorem RX.roll {E : XK} {i : Nat} {n : Int} (hi : ρ[i]? = some (.fro (.int n))) (h0 : 0 < n) (h1 : n < 1073741824) : RX K F0 H0 a ρ (tCall spRoll [] E (tCons (tVar 0) (tCons (tVar (i + 1)) tNil))) (fun d => ∃ r : Int, 0 ≤ r ∧ r < n ∧ d = .int r) := fun F H σ S Q k => by
  refine ⟨_, S.slot, ?_⟩
  obtain ⟨v, hv, r⟩ := S.fro hi
  obtain rfl := rp_int r
  refine ⟨_, hv, ?_⟩
  dsimp only [tNil]
  exact S.rollX h0 h1 fun r H' p1 p2 y => k _ _ _ _ ⟨r, p1, p2, Eq.refl _⟩ y (.int _)
theorem RX.one {E : XK} {m : M D} (hx : ∀ F0 H0, Ex ⟨K, F0, H0⟩ t m) (hi : Irr m) {d : D} (e : m (.unk :: ρ) = some d) (h0 : 0 < (itemsD d).length) (h1 : (itemsD d).length < 1073741824) :
    RX K F0 H0 a ρ (tCall (spOne K) [] E (tCons (tVar 0) (tCons t tNil))) (fun z => z ∈ itemsD d) := fun F H σ S Q k => by
  refine ⟨_, S.slot, ?_⟩
  refine DR.exX hx hi e S fun v F1 H1 y r => ?_
  have S1 := S.dx y
  dsimp only [tNil]
  have main : ∀ (b : Addr) (xs : List V) (ds : List D), F1 b ≠ none → (SqL K H1 b xs ∨ SqT K H1 b xs) → RpL K F1 xs ds → itemsD d = ds → spOne K [.ref a, .ref b] H1 Q E := fun b xs ds hb hs rl hd => by
    refine ⟨a, b, xs, Eq.refl _, S1.at, fun z => hb (by rw [z]; exact S1.fr), hs, by rw [rl.length, ← hd]; exact h0, by rw [rl.length, ← hd]; exact h1, fun i x H' hx d' o => ?_⟩
    have hl : i < ds.length := by rw [← rl.length]; exact (List.getElem?_eq_some_iff.mp hx).1
    obtain ⟨w, h3, h4⟩ := rl.get (i := i) (d := ds[i]) (by simp [hl])
    rw [hx] at h3; cases h3
    exact k x ds[i] F1 H' (by rw [hd]; exact List.getElem_mem hl) (y.trans (DX.off S1.s S1.fr o d')) h4
  cases d with
  | lst ds =>
    obtain ⟨b, xs, rfl, hb, rl⟩ := rp_lst r
    exact main b xs ds (by rw [hb]; simp) (.inl (SqL.of (S1.s _ _ hb))) rl (Eq.refl _)
  | tup ds =>
    obtain ⟨b, xs, rfl, hb, rl⟩ := rp_tup r
    exact main b xs ds (by rw [hb]; simp) (.inr (SqT.of (S1.s _ _ hb))) rl (Eq.refl _)
  | _ => exact absurd h0 (by simp [itemsD])
theorem RA.nil : RA K F0 H0 a ρ tNil (fun ds => ds = []) := fun F H σ S Q k => k [] [] F H (Eq.refl _) S.self .nil
theorem RA.cons (h : RX K F0 H0 a ρ t R) (k : RA K F0 H0 a ρ u RL) : RA K F0 H0 a ρ (tCons t u) (fun ds => ∃ d es, ds = d :: es ∧ R d ∧ RL es) := fun F H σ S Q q => by
  refine h F H σ S _ fun v d F1 H1 r1 y1 p1 => ?_
  refine k F1 H1 σ (S.dx y1) _ fun vs es F2 H2 r2 y2 p2 => ?_
  exact q (v :: vs) (d :: es) F2 H2 ⟨d, es, Eq.refl _, r1, r2⟩ (y1.trans y2) (.cons (p1.mono y2.x.f) p2)
theorem RX.tup (h : RA K F0 H0 a ρ u RL) (hl : ∀ ds, RL ds → ds.length ≤ sizeLine) : RX K F0 H0 a ρ (tTup u) (fun d => ∃ ds, RL ds ∧ d = .tup ds) := fun F H σ S Q q => by
  refine h F H σ S _ fun vs ds F1 H1 r1 y1 p1 => ⟨by rw [p1.length]; exact hl ds r1, fun p hp => ?_⟩
  have y2 : DX a F1 H1 _ _ := DX.laid (o := .tup vs) y1.s y1.d y1.f hp
  exact q _ _ _ _ ⟨ds, r1, Eq.refl _⟩ (y1.trans y2) (.obj upd_same (.tup (p1.mono y2.x.f)))
theorem RX.opF {r : R2} {f : D → D → Option D} (o : ∀ F0 H0, OpF ⟨K, F0, H0⟩ r f) (ha : RX K F0 H0 a ρ ta Ra) (hb : RX K F0 H0 a ρ tb Rb) (hf : ∀ x y, Ra x → Rb y → ∃ z, f x y = some z ∧ Rz z) : RX K F0 H0 a ρ (tOp r ta tb) Rz := fun F H σ S Q q => by
  refine ha F H σ S _ fun x d F1 H1 r1 y1 p1 => ?_
  refine hb F1 H1 σ (S.dx y1) _ fun y e F2 H2 r2 y2 p2 => ?_
  obtain ⟨z, h1, h2⟩ := hf d e r1 r2
  exact o F0 H0 F2 H2 x y d e z Q y2.s (p1.mono y2.x.f) p2 h1 fun v F3 H3 x3 p3 => q v z F3 H3 h2 ((y1.trans y2).trans (DX.of x3 y2.d y2.f)) p3
theorem RO.lst (h : RA K F0 H0 a ρ u RL) (hl : ∀ ds, RL ds → ds.length ≤ sizeLine) : RO K F0 H0 a ρ (tLst u) (fun d => ∃ ds, RL ds ∧ d = .lst ds) := fun F H σ S Q q => by
  refine h F H σ S _ fun vs ds F1 H1 r1 y1 p1 => ⟨by rw [p1.length]; exact hl ds r1, fun p hp => ?_⟩
  have y2 : DX a F1 H1 F1 (L2.upd H1 p (.lst vs)) := DX.of (Ext.temp y1.s hp) y1.d y1.f
  have hpa : p ≠ a := fun z => by
    obtain ⟨l, m, k, q⟩ := y1.d
    rw [z, q] at hp; cases hp
  have hH : H p = none := by
    cases q : H p with
    | none => exact Eq.refl _
    | some w => rw [y1.keep hpa q] at hp; cases hp
  exact q p _ _ _ _ ⟨ds, r1, Eq.refl _⟩ (y1.trans y2) hpa hH upd_same (none_of y1.s hp) (.lst p1)
theorem RO.lc {i : Nat} {wi : TI} {w : M (List D)} {Re : D → D → Prop} {ds : List D} (hw : ∀ F0 H0, Wx ⟨K, F0, H0⟩ wi w) (hi : Irr w) (e : w (.unk :: ρ) = some ds) (hl : ds.length < sizeLine)
    (el : ∀ d ∈ ds, RX K F0 H0 a ((ρ.set i .unk).set i (.fro d)) t (Re d)) : RO K F0 H0 a ρ (tLc wi (gName (i + 1)) tYes t [i + 1]) (fun z => ∃ es, es.length = ds.length ∧ (∀ (j : Nat) d e, ds[j]? = some d → es[j]? = some e → Re d e) ∧ z = .lst es) := fun F H σ S Q q =>
  DR.lc hw hi e hl S (fun d hd F H σ S Q k => el d hd F H σ S Q k) fun A xs es F' H' h1 h2 y h3 h4 h5 h6 rl => q A _ _ F' H' ⟨es, h1, h2, Eq.refl _⟩ y h3 h6 h4 h5 (.lst rl)
theorem RO.x (h : RO K F0 H0 a ρ t R) : RX K F0 H0 a ρ t R := fun F H σ S Q q => by
  refine h F H σ S _ fun A o d F1 H1 r y hA hn ho hf p => ?_
  have x := Ext.freeze (p := A) (o := o) y.x (by unfold hideH; rw [if_neg hA]; exact hn) (hide_of hA ho) hf
  have fr : Same F1 (L2.upd F1 A o) := fun b u z => by rw [upd_ne (fun e => by rw [e, hf] at z; cases z)]; exact z
  exact q _ d (L2.upd F1 A o) H1 r ⟨x, y.d, by rw [upd_ne (Ne.symm hA)]; exact y.f⟩ (.obj upd_same (p.mono fr))
theorem RX.tupOf (h : RO K F0 H0 a ρ t R) (hR : ∀ d, R d → ∃ ds, d = .lst ds) : RX K F0 H0 a ρ (tCB (rTupQ K) (tCons t tNil)) (fun z => ∃ ds, R (.lst ds) ∧ z = .tup ds) := fun F H σ S Q q => by
  refine h F H σ S _ fun A o d F1 H1 r y hA hn ho hf p => ?_
  obtain ⟨ds, rfl⟩ := hR d r
  cases p with
  | lst rl =>
    rename_i vs
    refine ⟨A, vs, Eq.refl _, .inl ⟨SqL.of ho, fun l hl => ?_⟩⟩
    have y2 : DX a F1 H1 _ _ := DX.laid (o := .tup vs) y.s y.d y.f hl
    exact q _ _ _ _ ⟨ds, r, Eq.refl _⟩ (y.trans y2) (.obj upd_same (.tup (rl.mono y2.x.f)))
/-! statements -/
variable {F H : Hp} {σ : L2.St}
theorem DR.setOwnX (S : DR K F0 H0 a F H σ ρ) {F' H' : Hp} (y : DX a F H F' H') {i : Nat} {A : Addr} {o : HO} {d : D} (hA : A ≠ a) (hn : H A = none) (ho : H' A = some o) (hf : F' A = none) (r : RpO K F' o d) (hd : isOwnD d = true) :
    DR K F0 H0 a F' H' (σ.set (i + 1) (some (.ref A))) (ρ.set i (.own d)) := by
  have sm : Same F' (hideH A H') := fun b u z => hide_of (fun e => by rw [e, hf] at z; cases z) (y.s b u z)
  have y1 : DX a F H F' (hideH A H') := by
    refine ⟨⟨y.x.f, fun b u z => ?_, fun b u z => ?_, y.x.n⟩, ?_, y.f⟩
    · have hb : b ≠ A := fun e => by rw [e] at z; rw [(hide_ne z).2] at hn; cases hn
      obtain ⟨q1, q2⟩ := hide_ne (y.x.h b u z)
      exact hide_of q1 (hide_of hb q2)
    · obtain ⟨q1, q2⟩ := hide_ne (y.x.s b u z)
      exact hide_of q1 (sm b u z)
    · obtain ⟨l, m, k, q⟩ := y.d
      exact ⟨l, m, k, hide_of (Ne.symm hA) q⟩
  obtain ⟨h0, l, m, k, T⟩ := S.dx y1
  have x2 : Ext F' (hideH A H') F' H' := ⟨fun _ _ e => e, fun b u z => (hide_ne z).2, y.s, fun _ _ e _ _ => e⟩
  exact ⟨h0, l, m, k, T.setOwn x2 (i := i + 1) (by unfold hideH; rw [if_pos (Eq.refl _)]) ho hf r hd⟩
theorem DR.asgR {i : Nat} (h : RX K F0 H0 a ρ t R) (S : DR K F0 H0 a F H σ ρ) {En : Ends} (k : ∀ d σ' F' H', R d → DR K F0 H0 a F' H' σ' (ρ.set i (.fro d)) → Same F F' → En.nx σ' H') : tAsg t (gName (i + 1)) En σ H :=
  h F H σ S _ fun v d F' H' r y p => k d _ F' H' r ((S.dx y).set p) y.x.f
theorem DR.ownR {i : Nat} (h : RO K F0 H0 a ρ t R) (hR : ∀ d, R d → isOwnD d = true) (S : DR K F0 H0 a F H σ ρ) {En : Ends} (k : ∀ d σ' F' H', R d → DR K F0 H0 a F' H' σ' (ρ.set i (.own d)) → Same F F' → En.nx σ' H') : tAsg t (gName (i + 1)) En σ H :=
  h F H σ S _ fun A o d F' H' r y hA hn ho hf p => k d _ F' H' r (S.setOwnX y hA hn ho hf p (hR d r)) y.x.f
theorem DR.appR {i : Nat} {ds : List D} (h : RX K F0 H0 a ρ t R) (hi : ρ[i]? = some (.own (.lst ds))) (hl : ds.length < sizeLine) (S : DR K F0 H0 a F H σ ρ) {En : Ends} (k : ∀ d σ' F' H', R d → DR K F0 H0 a F' H' σ' (ρ.set i (.own (.lst (ds ++ [d])))) → Same F F' → En.nx σ' H') :
    tDrop (tBM K "list" rAppend (tVar (i + 1)) (tCons t tNil)) En σ H := by
  have hi' : (SV.fro (.cst a) :: ρ)[i + 1]? = some (.own (.lst ds)) := by rw [List.getElem?_cons_succ]; exact hi
  have S0 := S
  obtain ⟨h0, l, m, k0, T⟩ := S
  obtain ⟨b, xs, h1, h2, rl⟩ := T.ownL hi'
  refine ⟨.ref b, h1, .inl ⟨Eq.refl _, xs, SqL.of h2⟩, ?_⟩
  refine h F H σ S0 _ fun v d F' H' r y p => ?_
  obtain ⟨h0', l', m', k', T'⟩ := S0.dx y
  obtain ⟨b', xs', h1', h2', rl'⟩ := T'.ownL hi'
  rw [h1] at h1'; cases h1'
  refine ⟨b, xs', v, Eq.refl _, Eq.refl _, h2', by rw [rl'.length]; exact hl, ?_⟩
  exact k d σ F' _ r ⟨h0', l', m', k', T'.change hi' h1 (.lst (rl'.app (.cons p .nil))) (Eq.refl _)⟩ y.x.f
/-- for ..: what is drawn in the body -/
theorem DR.loop {wi : TI} {g : TG} {st : DS → D → Option DS} {tb : TS} {w : M (List D)} {ds : List D} {P : Nat → DS → Prop} (hw : ∀ F0 H0, Wx ⟨K, F0, H0⟩ wi w) (hi : Irr w) (e : w (.unk :: ρ) = some ds) (hg : ∀ F0 H0, Gx ⟨K, F0, H0⟩ g st) (his : IrS st)
    (S : DR K F0 H0 a F H σ ρ) (h0 : P 0 ρ) (hst : ∀ i d ρi, ds[i]? = some d → P i ρi → ∃ ρj, st (.unk :: ρi) d = some (.unk :: ρj))
    (body : ∀ i d ρi ρj, ds[i]? = some d → P i ρi → st (.unk :: ρi) d = some (.unk :: ρj) → ∀ (F H : Hp) (σ : L2.St) (En : Ends), DR K F0 H0 a F H σ ρj → (∀ ρ' σ' F' H', P (i + 1) ρ' → DR K F0 H0 a F' H' σ' ρ' → Same F F' → En.nx σ' H') → tb En σ H)
    {En : Ends} (k : ∀ ρ' σ' F' H', P ds.length ρ' → DR K F0 H0 a F' H' σ' ρ' → Same F F' → En.nx σ' H') : tFor wi g tb En σ H := by
  have d0 := S.at
  have f0 := S.fr
  have S' := S
  obtain ⟨hz, l, m', k', T⟩ := S
  refine hw _ _ _ σ F H _ ds T (hi.at e _) fun J F1 H1 x1 it => ?_
  have y1 : DX a F H F1 H1 := DX.of x1 d0 f0
  refine ⟨fun i n σ H => n = ds.length - i ∧ i ≤ ds.length ∧ ∃ ρ' F', DR K F0 H0 a F' H σ ρ' ∧ Same F1 F' ∧ P i ρ', ⟨ds.length, by simp, Nat.zero_le _, ρ, F1, S'.dx y1, Same.refl _, h0⟩, ?_⟩
  rintro i n σ2 H2 ⟨rfl, hi', ρ2, F2, S2, s2, p2⟩
  by_cases hlt : i < ds.length
  · refine .inr ⟨it.go i F2 H2 s2 S2.s hlt, ?_⟩
    have hd : ds[i]? = some ds[i] := by simp [hlt]
    refine ⟨fun σ' H' => ∃ ρ' F', DR K F0 H0 a F' H' σ' ρ' ∧ Same F1 F' ∧ P (i + 1) ρ', fun σ' H' ⟨ρ', F', z1, z2, z3⟩ => ⟨_, by omega, Eq.refl _, hlt, ρ', F', z1, z2, z3⟩, fun x H3 yl => ?_⟩
    obtain ⟨F3, x3, r3⟩ := it.yld i F2 H2 x H3 _ s2 S2.s hd yl
    have y3 : DX a F2 H2 F3 H3 := DX.of x3 S2.at S2.fr
    obtain ⟨ρj, e3⟩ := hst i _ ρ2 hd p2
    obtain ⟨h0', l', m'', k'', T3⟩ := S2.dx y3
    have e4 : st (.fro (.cst a) :: ρ2) ds[i] = some (.fro (.cst a) :: ρj) := by
      obtain ⟨R, hR⟩ := his ρ2 ds[i]
      rw [hR] at e3 ⊢
      cases R with
      | none => cases e3
      | some r => cases e3; exact Eq.refl _
    refine hg _ _ _ _ σ2 F3 H3 _ x _ T3 r3 e4 fun σ4 S4 => ?_
    refine body i _ ρ2 ρj hd p2 e3 F3 H3 σ4 _ ⟨h0', l', m'', k'', S4⟩ fun ρ' σ' F' H' p' S5 s5 => ?_
    exact ⟨ρ', F', S5, s2.trans (x3.f.trans s5), p'⟩
  · have hn : i = ds.length := by omega
    subst hn
    exact .inl ⟨it.stop F2 H2 s2 S2.s, k ρ2 σ2 F2 H2 p2 S2 (x1.f.trans s2)⟩
end
end DN

namespace DN
open PySem PySem.Spec PyProof.Rows L2 DL
section
variable {K : PySem.W.Frag} {F0 H0 F H : Hp} {a : Addr} {ρ ρ' : DS} {σ : L2.St} {t ta tb : TE} {u : TA} {R Ra Rb Rz : D → Prop} {RL : List D → Prop}
theorem RO.imp (h : RO K F0 H0 a ρ t R) (k : ∀ d, R d → Rz d) : RO K F0 H0 a ρ t Rz := fun F H σ S Q q => h F H σ S Q fun A o d F' H' r => q A o d F' H' (k d r)
/-- own + new list -/
theorem RO.catO {i : Nat} {fs : List D} (hi : ρ[i]? = some (.own (.lst fs))) (h : RO K F0 H0 a ρ tb R) (hR : ∀ d, R d → ∃ es, d = .lst es ∧ fs.length + es.length ≤ sizeLine) :
    RO K F0 H0 a ρ (tOp rCat (tVar (i + 1)) tb) (fun z => ∃ es, R (.lst es) ∧ z = .lst (fs ++ es)) := fun F H σ S Q q => by
  have hi' : (SV.fro (.cst a) :: ρ)[i + 1]? = some (.own (.lst fs)) := by rw [List.getElem?_cons_succ]; exact hi
  have S0 := S
  obtain ⟨h0, l, m, k0, T⟩ := S
  obtain ⟨b, o, h1, h2, h3, h4, h5⟩ := T.own (i + 1) _ hi'
  have hb : b ≠ a := fun z => by subst z; rw [upd_same] at h4; cases h4
  cases h5 with
  | lst rl =>
    rename_i xs
    refine ⟨.ref b, h1, ?_⟩
    refine h F H σ S0 _ fun A o d F1 H1 r y hA hn ho hf p => ?_
    obtain ⟨es, rfl, hl⟩ := hR d r
    cases p with
    | lst rl2 =>
      rename_i zs
      refine ⟨b, A, xs, zs, Eq.refl _, Eq.refl _, y.keep hb h2, ho, by rw [rl.length, rl2.length]; exact hl, fun p hp => ?_⟩
      have y2 : DX a F1 H1 F1 (L2.upd H1 p (.lst (xs ++ zs))) := DX.of (Ext.temp y.s hp) y.d y.f
      have hpa : p ≠ a := fun z => by
        obtain ⟨l, m, k, q⟩ := y.d
        rw [z, q] at hp; cases hp
      have hH : H p = none := by
        cases q : H p with
        | none => exact Eq.refl _
        | some w => rw [y.keep hpa q] at hp; cases hp
      exact q p _ _ F1 _ ⟨es, r, Eq.refl _⟩ (y.trans y2) hpa hH upd_same (none_of y.s hp) (.lst ((rl.mono y.x.f).app rl2))
theorem DR.freezeS (S : DR K F0 H0 a F H σ ρ) {i : Nat} {d : D} (hi : ρ[i]? = some (.own d)) : ∃ F', Same F F' ∧ DR K F0 H0 a F' H σ (ρ.set i (.fro d)) := by
  have hi' : (SV.fro (.cst a) :: ρ)[i + 1]? = some (.own d) := by rw [List.getElem?_cons_succ]; exact hi
  obtain ⟨h0, l, m, k0, T⟩ := S
  obtain ⟨F', s, T'⟩ := T.freeze hi'
  exact ⟨F', s, h0, l, m, k0, T'⟩
/-- a test that draws nothing -/
theorem DR.ifR {tt : TT} {m : M Bool} {u v : TS} (hx : ∀ F0 H0, Tx ⟨K, F0, H0⟩ tt m) (hi : Irr m) {b : Bool} (e : m (.unk :: ρ) = some b) (S : DR K F0 H0 a F H σ ρ) {En : Ends}
    (k1 : b = true → ∀ F' H', DR K F0 H0 a F' H' σ ρ → Same F F' → u En σ H') (k2 : b = false → ∀ F' H', DR K F0 H0 a F' H' σ ρ → Same F F' → v En σ H') : tIfS tt u v En σ H := by
  have S0 := S
  obtain ⟨h0, l, m', k', T⟩ := S
  refine hx _ _ _ σ F H _ b T (hi.at e _) fun F1 H1 x => ?_
  have y : DX a F H F1 H1 := DX.of x S0.at S0.fr
  cases b with
  | true => exact iteT (k1 (Eq.refl _) F1 H1 (S0.dx y) y.x.f)
  | false => exact iteF (k2 (Eq.refl _) F1 H1 (S0.dx y) y.x.f)
end
end DN

namespace DL
open PySem PySem.Spec L2
/-! repr of a bool -/
def rReprB : List V → Hp → VK → Prop := fun xs H Q => ∃ k, xs = [.bl k] ∧ Q (.str (if k then "True" else "False")) H
theorem call_reprB {X : Cx} : CallR X (.builtin "repr") rReprB := by
  intro pins s σ H xs us Q I r h
  obtain ⟨k, rfl, q⟩ := h
  obtain ⟨u, rfl, ru⟩ := vals1 r
  obtain rfl : u = .bool k := ru
  exact PySem.P.repr_of_bool ⟨.str _, H, I.tok _, ⟨_, by cases k <;> rfl⟩, q⟩
def fReprB : D → Option D
  | .bl k => some (.str (if k then "True" else "False"))
  | _ => none
theorem bReprB {c : Cc} : CB c rReprB (f1 fReprB) := fun F H vs ds z Q s r h k => by
  obtain ⟨d, rfl, h0⟩ := f1_some h
  obtain ⟨v, rfl, r1⟩ := rbl1 r
  unfold fReprB at h0
  split at h0
  · rename_i b
    cases h0
    obtain rfl := rp_bl (r1.h s)
    exact ⟨b, rfl, k _ F H (Ext.refl s) (.str _)⟩
  · cases h0
end DL
namespace DN
open PySem PySem.Spec PyProof.Rows L2 DL
section
variable {K : PySem.W.Frag} {F0 H0 F H : Hp} {a : Addr} {ρ ρ' : DS} {σ : L2.St} {t ta tb : TE} {u : TA} {R Ra Rb Rz : D → Prop} {RL : List D → Prop}
/-- a def that draws is called -/
theorem RX.w {Pre : List D → Prop} {Rel : List D → D → Prop} {E : XK} (h : RA K F0 H0 a ρ u RL) (hp : ∀ ds, RL ds → Pre ds) : RX K F0 H0 a ρ (tCall (spW K Pre Rel) [] E (tCons (tVar 0) u)) (fun d => ∃ ds, RL ds ∧ Rel ds d) := fun F H σ S Q k => by
  refine ⟨_, S.slot, ?_⟩
  refine h F H σ S _ fun vs ds F1 H1 r y p => ?_
  have S1 := S.dx y
  show spW K Pre Rel (.ref a :: vs ++ []) H1 Q E
  rw [List.append_nil]
  exact ⟨a, vs, F1, ds, Eq.refl _, S1.at, S1.s, S1.fr, p, hp ds r, fun d v F' H' hr x da fa rv => k v d F' H' ⟨ds, r, hr⟩ (y.trans ⟨x, da, fa⟩) rv⟩
/-- for name in a drawn list: a body that draws nothing, and goes on -/
theorem DR.each {i : Nat} {tb : TS} {mb : M Fl} (h : RX K F0 H0 a ρ t R) (hR : ∀ d, R d → ∃ ls, d = .lst ls ∧ ∀ v ∈ ls, mb (.unk :: ρ.set i (.fro v)) = some (.nx (.unk :: ρ.set i (.fro v)))) (hx : ∀ F0 H0, Sx ⟨K, F0, H0⟩ tb mb) (hi : IrF mb)
    (S : DR K F0 H0 a F H σ ρ) {En : Ends} (k : ∀ x σ' F' H', DR K F0 H0 a F' H' σ' (ρ.set i x) → En.nx σ' H') : tFor (iList K t) (gName (i + 1)) tb En σ H := by
  refine h F H σ S _ fun v d F1 H1 r y p => ?_
  obtain ⟨ls, rfl, hq⟩ := hR d r
  obtain ⟨b, xs, rfl, hb, rl⟩ := rp_lst p
  have S1 := S.dx y
  have it := its_list (K := K) (F := F1) (a := b) hb rl
  have self : DR K F0 H0 a F1 H1 σ (ρ.set i (ρ[i]?.getD .unk)) := by
    cases q : ρ[i]? with
    | none =>
      rw [List.set_eq_of_length_le (List.getElem?_eq_none_iff.mp q)]
      exact S1
    | some s =>
      have : ρ.set i s = ρ := by
        have := (List.getElem?_eq_some_iff.mp q)
        obtain ⟨h1, h2⟩ := this
        rw [← h2]
        exact List.set_getElem_self h1
      show DR K F0 H0 a F1 H1 σ (ρ.set i s)
      rw [this]
      exact S1
  refine ⟨b, Eq.refl _, ⟨xs, SqL.of (S1.s _ _ hb)⟩, ?_⟩
  refine ⟨fun j n σ H => n = ls.length - j ∧ j ≤ ls.length ∧ ∃ x F', DR K F0 H0 a F' H σ (ρ.set i x) ∧ Same F1 F', ⟨ls.length, by simp, Nat.zero_le _, _, F1, self, Same.refl _⟩, ?_⟩
  rintro j n σ2 H2 ⟨rfl, hj, x, F2, S2, s2⟩
  by_cases hlt : j < ls.length
  · refine .inr ⟨it.go j F2 H2 s2 S2.s hlt, ?_⟩
    have hd : ls[j]? = some ls[j] := by simp [hlt]
    refine ⟨fun σ' H' => ∃ x F', DR K F0 H0 a F' H' σ' (ρ.set i x) ∧ Same F1 F', fun σ' H' ⟨x, F', z1, z2⟩ => ⟨_, by omega, Eq.refl _, hlt, x, F', z1, z2⟩, fun w H3 yl => ?_⟩
    obtain ⟨F3, x3, r3⟩ := it.yld j F2 H2 w H3 _ s2 S2.s hd yl
    have S3 : DR K F0 H0 a F3 H3 (σ2.set (i + 1) (some w)) (ρ.set i (.fro ls[j])) := by
      have := ((S2.dx (DX.of x3 S2.at S2.fr)).set (i := i) r3)
      rw [List.set_set] at this
      exact this
    show tb _ _ H3
    refine DR.sx hx hi (hq _ (List.getElem_mem hlt)) S3 fun σ' F' H' S' s' => ?_
    exact ⟨_, F', S', s2.trans (x3.f.trans s')⟩
  · have hn : j = ls.length := by omega
    subst hn
    exact .inl ⟨it.stop F2 H2 s2 S2.s, k x σ2 F2 H2 S2⟩
end
end DN

/-! repr of a value -/
namespace DG
open PySem PySem.Spec PyProof.Rows L2 LamX DL DX DZ
mutual
def pyD : D → Option PyData
  | .non => some .none
  | .bl b => some (.bool b)
  | .int i => some (.int i)
  | .str x => some (.str x)
  | .tup xs => (pyDs xs).map PyData.tuple
  | .ktup xs => (pyDs xs).map PyData.tuple
  | .ftup xs => (pyDs xs).map PyData.tuple
  | .lst xs => (pyDs xs).map PyData.list
  | _ => none
def pyDs : List D → Option (List PyData)
  | [] => some []
  | d :: ds => (pyD d).bind fun p => (pyDs ds).map fun ps => p :: ps
end
mutual
theorem noDict : ∀ {d : D} {p : PyData}, pyD d = some p → p.hasDict = false
  | .non, p, h => by cases h; rfl
  | .bl _, p, h => by cases h; rfl
  | .int _, p, h => by cases h; rfl
  | .str _, p, h => by cases h; rfl
  | .tup xs, p, h => by
    obtain ⟨ps, e, rfl⟩ := Option.map_eq_some_iff.mp (show (pyDs xs).map PyData.tuple = some p from h)
    exact noDicts e
  | .ktup xs, p, h => by
    obtain ⟨ps, e, rfl⟩ := Option.map_eq_some_iff.mp (show (pyDs xs).map PyData.tuple = some p from h)
    exact noDicts e
  | .ftup xs, p, h => by
    obtain ⟨ps, e, rfl⟩ := Option.map_eq_some_iff.mp (show (pyDs xs).map PyData.tuple = some p from h)
    exact noDicts e
  | .lst xs, p, h => by
    obtain ⟨ps, e, rfl⟩ := Option.map_eq_some_iff.mp (show (pyDs xs).map PyData.list = some p from h)
    exact noDicts e
  | .ty _, p, h => by cases h
  | .cst _, p, h => by cases h
  | .dct _ _ _, p, h => by cases h
  | .ins _ _ _, p, h => by cases h
theorem noDicts : ∀ {ds : List D} {ps : List PyData}, pyDs ds = some ps → PyData.hasDictAll ps = false
  | [], ps, h => by cases h; rfl
  | d :: ds, ps, h => by
    obtain ⟨p, e1, e2⟩ := Option.bind_eq_some_iff.mp (show (pyD d).bind _ = some ps from h)
    obtain ⟨qs, e3, rfl⟩ := Option.map_eq_some_iff.mp e2
    show (p.hasDict || PyData.hasDictAll qs) = false
    rw [noDict e1, noDicts e3]
    rfl
end
section
variable {P : Program} {w : World} {K : PySem.W.Frag} {F H : Hp} {h : Heap}
mutual
theorem rp_reads (hok : HOk P w H h) (KX : K.In h) (s : Same F H) : ∀ {v : V} {d : D} {p : PyData} {u : Value}, Rp K F v d → pyD d = some p → RelV v u → ∃ as, Reads h u p as
  | _, _, _, _, .non, e, r => by
    cases e
    obtain rfl : _ = Value.none := r
    exact ⟨_, .none⟩
  | _, _, _, _, .bl b, e, r => by
    cases e
    obtain rfl : _ = Value.bool b := r
    exact ⟨_, .bool b⟩
  | _, _, _, _, .int i, e, r => by
    cases e
    obtain ⟨t, rfl⟩ : ∃ t, _ = Value.int i t := r
    exact ⟨_, .int i t⟩
  | _, _, _, _, .str x, e, r => by
    cases e
    obtain ⟨t, rfl⟩ : ∃ t, _ = Value.str x t := r
    exact ⟨_, .str x t⟩
  | _, _, _, _, .ty _, e, _ => by cases e
  | _, _, _, _, .cst _, e, _ => by cases e
  | _, _, _, _, .tupK (a := a) (ds := ds) q rl, e, r => by
    obtain ⟨ps, e1, rfl⟩ := Option.map_eq_some_iff.mp (show (pyDs ds).map PyData.tuple = some _ from e)
    obtain rfl : _ = Value.ref a := r
    obtain ⟨its, o, n, rv, ho, hc, hd⟩ := sqT_at hok KX (q H)
    obtain ⟨as, ra⟩ := rpL_reads hok KX s rl e1 rv
    exact ⟨_, .tuple ho hc hd ra⟩
  | _, _, _, _, .obj (a := a) ha ro, e, r => by
    obtain rfl : _ = Value.ref a := r
    exact rpO_reads hok KX s ro (s _ _ ha) e
theorem rpL_reads (hok : HOk P w H h) (KX : K.In h) (s : Same F H) : ∀ {vs : List V} {ds : List D} {ps : List PyData} {us : List Value}, RpL K F vs ds → pyDs ds = some ps → Vals vs us → ∃ as, ReadsAll h us ps as
  | _, _, _, _, .nil, e, r => by
    cases e
    cases r
    exact ⟨_, .nil⟩
  | _, _, _, _, .cons (d := d) (ds := ds) r1 r2, e, r => by
    obtain ⟨p, e1, e2⟩ := Option.bind_eq_some_iff.mp (show (pyD d).bind _ = some _ from e)
    obtain ⟨qs, e3, rfl⟩ := Option.map_eq_some_iff.mp e2
    cases r with
    | cons v1 v2 =>
      obtain ⟨as, h1⟩ := rp_reads hok KX s r1 e1 v1
      obtain ⟨bs, h2⟩ := rpL_reads hok KX s r2 e3 v2
      exact ⟨_, .cons h1 h2⟩
theorem rpO_reads (hok : HOk P w H h) (KX : K.In h) (s : Same F H) : ∀ {o : HO} {d : D} {p : PyData} {a : Addr}, RpO K F o d → H a = some o → pyD d = some p → ∃ as, Reads h (.ref a) p as
  | _, _, _, a, .tup (xs := xs) (ds := ds) rl, ha, e => by
    obtain ⟨ps, e1, rfl⟩ := Option.map_eq_some_iff.mp (show (pyDs ds).map PyData.tuple = some _ from e)
    obtain ⟨its, o, n, rv, ho, hc, hd⟩ := sqT_at hok KX (SqT.of ha : SqT K H a xs)
    obtain ⟨as, ra⟩ := rpL_reads hok KX s rl e1 rv
    exact ⟨_, .tuple ho hc hd ra⟩
  | _, _, _, a, .ftup (ob := ob) (xs := xs) (ds := ds) _ _ rl, ha, e => by
    obtain ⟨ps, e1, rfl⟩ := Option.map_eq_some_iff.mp (show (pyDs ds).map PyData.tuple = some _ from e)
    obtain ⟨its, o, n, rv, ho, hc, hd⟩ := sqT_at (K := K) hok KX (.inl (.inr ⟨ob, ha⟩) : SqT K H a xs)
    obtain ⟨as, ra⟩ := rpL_reads hok KX s rl e1 rv
    exact ⟨_, .tuple ho hc hd ra⟩
  | _, _, _, a, .lst (xs := xs) (ds := ds) rl, ha, e => by
    obtain ⟨ps, e1, rfl⟩ := Option.map_eq_some_iff.mp (show (pyDs ds).map PyData.list = some _ from e)
    obtain ⟨_, its, n, rv, ho⟩ := (hok a _ ha : ObjOk P w H h a (.lst xs))
    obtain ⟨as, ra⟩ := rpL_reads hok KX s rl e1 rv
    exact ⟨_, .list ho rfl rfl ra⟩
  | _, _, _, _, .dK _ _, _, e => by cases e
  | _, _, _, _, .dT _ _, _, e => by cases e
  | _, _, _, _, .ins _ _, _, e => by cases e
end
end
def showOk (p : PyData) : Bool := p.showable && decide (p.depth ≤ 100) && decide (p.shown.length ≤ sizeLine)
def rReprD (K : PySem.W.Frag) : List V → Hp → VK → Prop := fun xs H Q => ∃ (F : Hp) (v : V) (d : D) (p : PyData), xs = [v] ∧ Same F H ∧ RB K F H v d ∧ pyD d = some p ∧ showOk p = true ∧ Q (.str p.shown) H
theorem call_reprD {X : Cx} (gd : X.A.guards = some []) (hu : X.A.units + 200 < cLine) : CallR X (.builtin "repr") (rReprD X.K) := by
  intro pins s σ H xs us Q I r h
  obtain ⟨F, v, d, p, rfl, sm, rp, e, ok, q⟩ := h
  obtain ⟨u, rfl, ru⟩ := vals1 r
  unfold showOk at ok
  rw [Bool.and_eq_true, Bool.and_eq_true, decide_eq_true_eq, decide_eq_true_eq] at ok
  obtain ⟨as, rd⟩ : ∃ as, Reads s.heap u p as := by
    rcases rp with rp | ⟨a, o, rfl, ho, ro⟩
    · exact rp_reads I.hok I.kIn sm rp e ru
    · obtain rfl : u = Value.ref a := ru
      exact rpO_reads I.hok I.kIn sm ro ho e
  have fin : ∀ t, EP X pins σ Q (.str p.shown t) { s with toks := s.toks + 1 } := fun t => ⟨.str _, H, I.tok _, ⟨t, rfl⟩, q⟩
  match rd with
  | .none => exact PySem.P.repr_of_none (fin _)
  | .bool b => exact PySem.P.repr_of_bool (by have := fin s.toks; cases b <;> exact this)
  | .int i t => exact PySem.P.repr_of_int (by have z : decide _ = true := ok.1.1; exact of_decide_eq_true z) (fin _)
  | .str x t => exact PySem.P.repr_of_str (fin _) ok.2
  | .list h1 h2 h3 h4 =>
    exact PySem.repr_of_reads' (h₀ := s.heap) (.list h1 h2 h3 h4) ok.1.1 (PySem.PyData.noDict_hsm (noDict e)) gd (by have := ok.1.2; omega) (fun b o z => z) (fun h' u tk k => ⟨.str _, H, I.kept k, ⟨u, rfl⟩, q⟩) ok.2
  | .tuple h1 h2 h3 h4 =>
    exact PySem.repr_of_reads' (h₀ := s.heap) (.tuple h1 h2 h3 h4) ok.1.1 (PySem.PyData.noDict_hsm (noDict e)) gd (by have := ok.1.2; omega) (fun b o z => z) (fun h' u tk k => ⟨.str _, H, I.kept k, ⟨u, rfl⟩, q⟩) ok.2
  | .dict _ _ _ _ _ => exact nomatch (noDict e)
def fReprD : D → Option D := fun d => (pyD d).bind fun p => if showOk p then some (.str p.shown) else none
theorem bReprD {c : Cc} : CB c (rReprD c.K) (f1 fReprD) := fun F H vs ds z Q s r h k => by
  obtain ⟨d, rfl, h0⟩ := f1_some h
  obtain ⟨v, rfl, r1⟩ := rbl1 r
  obtain ⟨p, e1, e2⟩ := Option.bind_eq_some_iff.mp h0
  split at e2
  · rename_i ok
    cases e2
    exact ⟨F, v, d, p, rfl, s, r1, e1, ok, k _ F H (Ext.refl s) (.str _)⟩
  · cases e2
end DG

/-! try with several clauses, some of which name the error -/
namespace DG
open PySem PySem.Spec PyProof.Rows L2 LamX DL DX DZ
abbrev TSu := Addr → Value → Option Addr → TS
/-- a suite that finds the error at slot i, where nothing stands behind it -/
def tAs (i : Nat) (ts : TSu) : TSu := fun a cls d D σ H =>
  ts a cls d { nx := fun τ G => D.nx (τ.set i none) G, rt := D.rt, bk := fun τ G => D.bk (τ.set i none) G, ct := fun τ G => D.ct (τ.set i none) G } (σ.set i (some (.ref a))) H
def SuiteOk (X : Cx) (b : List Stmt) (ts : TSu) : Prop := ∀ (a : Addr) (oe : Obj) (cls : Value) (d : Option Addr) (pn : List (Addr × Obj)), Zc cls d oe → (∃ vs, oe.data = .fields vs) → PSs (X.suite a ((a, oe) :: pn)) b (ts a cls d)
inductive HdM (X : Cx) : List ExceptHandler → List (Value × TSu) → Prop
  | nil : HdM X [] []
  | plain {x : Str} {c : Value} {ts : TSu} {b0 : Stmt} {b : List Stmt} {np p : Pos} {hs : List ExceptHandler} {l : List (Value × TSu)} : Names X x c → SuiteOk X (b0 :: b) ts → HdM X hs l → HdM X (.ExceptHandler (some (.Name x np)) none (b0 :: b) p :: hs) ((c, ts) :: l)
  | named {x n : Str} {i : Nat} {c : Value} {ts : TSu} {b0 : Stmt} {b : List Stmt} {np p : Pos} {hs : List ExceptHandler} {l : List (Value × TSu)} : X.N[i]? = some n → X.env.kindOf n = some .local → Names X x c → SuiteOk X (b0 :: b) ts → HdM X hs l →
      HdM X (.ExceptHandler (some (.Name x np)) (some n) (b0 :: b) p :: hs) ((c, tAs i ts) :: l)
section
variable {X : Cx} {body : List Stmt} {h0 : ExceptHandler} {hds : List ExceptHandler} {l : List (Value × TSu)} {pos : Pos} {tb : WX → TS} {Wo : WX}
theorem ps_try_mix (hs : X.stack = X.env :: X.outer) (hf : X.env.frame = some X.env.locals) (hN : X.N.Nodup) (tk : Takes X Wo)
    (hb : ∀ (W : WX) (pn : List (Addr × Obj)) (xe : Value → Shared → Prop), Takes (X.tr pn xe) W → PassesOwn (model X.prog X.w) X.A X.env xe → PSs (X.tr pn xe) body (tb W)) (hh : HdM X (h0 :: hds) l) :
    PS X (.Try body (h0 :: hds) [] [] pos) (fun D σ H => tb (wMany X.K Wo D l) D σ H) := by
  refine ⟨fun pins s σ H D I h => wpAny_Try_except ?_⟩
  have ok := I.ok
  have fr : X.A.frames = some (X.env :: X.outer) := ok.frames.trans (by rw [hs])
  let land : Value → Shared → Prop := fun e => wpAny (model X.prog X.w) X.A (handleBy e X.env (h0 :: hds)) (SP X pins D) X.xe
  refine wpAny_mono ((hb (wMany X.K Wo D l) (X.pn ++ pins) (fun e => wpAny (model X.prog X.w) X.A (noteFrame e X.env) (fun _ => wpAny (model X.prog X.w) X.A (setFlight e none) (fun _ => land e) X.xe) X.xe) (fun u s' xx => ?_) PassesOwn.looking).run [] s σ H D (I.toTry _) h) (fun fl s1 z => ?_) (fun _ _ z => z)
  case refine_1 =>
    obtain ⟨a, B, sI, pins', τ, G, cls, d, rfl, J', nb, up, sky, na, os, ag, wish⟩ := xx
    have J : Inv X pins τ G sI := J'.ofTry ok
    rw [show (X.tr (X.pn ++ pins) _).stack = X.env :: X.outer from hs] at sky
    refine Sky.land Zc.steady fr hf sky fun h3 L3 up3 => ?_
    have J3 : Inv X pins τ G { s' with heap := h3 } := J.landed nb L3.1 (up.trans up3) os ag
    obtain ⟨oe, fs, ho, hz, hd⟩ := L3.there
    have nfr : a ∉ frs (X.env :: X.outer) := fun m => by
      obtain ⟨_, o2, e2, n2⟩ := L3.2.2.1.mem m
      cases ho.symm.trans e2
      exact n2 _ hd
    have nL : a ≠ X.env.locals := fun z => nfr (List.mem_filterMap.mpr ⟨_, List.mem_cons_self, by rw [hf, z]⟩)
    have nF : a ∉ X.fs := fun m => by
      obtain ⟨e, m1, m2⟩ := List.mem_filterMap.mp m
      exact nfr (List.mem_filterMap.mpr ⟨e, List.mem_cons_of_mem _ m1, m2⟩)
    have S3 := J3.suite ho hd na nL nF
    have look : PySem.W.Looks (model X.prog X.w) h3 (typeOf (.ref a)) cls := fun A Q E s k q => wpAny_typeOf_ref (k _ _ ho) (by rw [hz.1]; exact q)
    -- the class that a clause names
    have named : ∀ {x : Str} {c : Value} {np : Pos}, Names X x c → ∀ {Q E : Value → Shared → Prop}, Q c { s' with heap := h3 } → wpAny (model X.prog X.w) (X.A.mark (some (.ref a))) (eval (.Name x np) X.env) Q E { s' with heap := h3 } := fun nm Q E q => by
      obtain ⟨g, db, m | ⟨m, v, nn⟩⟩ := nm
      · exact ld_glob (X := X.suite a ((a, oe) :: (X.pn ++ pins))) S3 g m q db
      · exact ld_blt (X := X.suite a ((a, oe) :: (X.pn ++ pins))) S3 g m v q nn db
    -- a suite runs
    have suite : ∀ {b : List Stmt} {ts : TSu}, SuiteOk X b ts → ∀ {D2 : Ends} {τ2 : L2.St} {o4 : Obj} {s4 : Shared} {R : Flow → Shared → Prop} {E : Value → Shared → Prop}, Zc cls d o4 → (∃ vs, o4.data = .fields vs) → Inv (X.suite a ((a, o4) :: (X.pn ++ pins))) [] τ2 G s4 → ts a cls d D2 τ2 G →
        (∀ f s6, SP (X.suite a ((a, o4) :: (X.pn ++ pins))) [] D2 f s6 → R f s6) → wpAny (model X.prog X.w) (X.A.mark (some (.ref a))) (execs b X.env) R E s4 := fun {b ts} hb2 {D2 τ2 o4 s4 R E} z4 d4 S4 w4 k => by
      exact wpAny_mono ((hb2 a o4 cls d (X.pn ++ pins) z4 d4).run [] s4 τ2 G D2 S4 w4) k fun _ _ z => False.elim z
    have go : ∀ {hds2 : List ExceptHandler} {l2 : List (Value × TSu)}, HdM X hds2 l2 → wMany X.K Wo D l2 cls d τ G → wpAny (model X.prog X.w) X.A (handleBy (.ref a) X.env hds2) (SP X pins D) X.xe { s' with heap := h3 } := by
      intro hds2 l2 hk
      induction hk with
      | nil =>
        intro w
        obtain ⟨_, _, _, o5, f5, T5, _, _, e5, _, d5, g5, _⟩ := id L3
        refine wpAny_handleBy_nil ?_
        unfold PySem.passOn
        refine wpAny_bind (wpAny_field e5 d5 g5 ?_)
        rw [if_neg (show ¬ ((Value.ref T5 == Value.none) = true) from by simp)]
        have out : wpAny (model X.prog X.w) X.A (setFlight (.ref a) X.env.frame) (fun _ s5 => wpAny (model X.prog X.w) X.A (throw (.ref a) : Sem Flow) (SP X pins D) X.xe s5) X.xe { s' with heap := h3 } := by
          rw [hf]
          exact HandSPX.setFlight_upZ L3 fun h5 u5 up5 => wpAny_throw (tk _ _ ⟨a, B, sI, pins, τ, G, cls, d, rfl, J, nb, (up.trans up3).trans up5, .inr (.inr (by rw [hs]; exact u5)), na, os, ag, w⟩)
        first
          | exact wpAny_bind (wpAny_pure (wpAny_bind out))
          | exact wpAny_bind out
      | plain nm su _ ih =>
        intro w
        obtain ⟨b, hit, yes, no⟩ := w
        refine wpAny_handleBy_cons (codeAny_handlers_test ?_) (by intro q; cases q)
        refine named nm ((PySem.W.exm_one (M := model X.prog X.w) J3.kIn look hit).here ?_)
        cases b with
        | false => exact ih (no rfl)
        | true =>
          refine codeAny_handlers_suite (HandSPX.lands_againZ L3 fun h4 L4 up4 => ?_)
          obtain ⟨o4, f4, e4, z4, d4⟩ := L4.there
          have J4 : Inv X pins τ G { s' with heap := h4 } := J.landed nb L4.1 ((up.trans up3).trans up4) os ag
          have S4 := J4.suite e4 d4 na nL nF
          refine suite su z4 ⟨_, d4⟩ S4 (yes rfl a na) fun f s6 k => ?_
          match f, k with
          | .next, ⟨_, _, S6, q⟩ => exact ⟨_, _, S6.unsuite ok, q⟩
          | .brk, ⟨_, _, S6, q⟩ => exact ⟨_, _, S6.unsuite ok, q⟩
          | .cont, ⟨_, _, S6, q⟩ => exact ⟨_, _, S6.unsuite ok, q⟩
          | .ret _, ⟨_, _, _, S6, r6, q⟩ => exact ⟨_, _, _, S6.unsuite ok, r6, q⟩
      | named hi hl nm su _ ih =>
        intro w
        obtain ⟨b, hit, yes, no⟩ := w
        refine wpAny_handleBy_cons (codeAny_handlers_test ?_) (by intro q; cases q)
        refine named nm ((PySem.W.exm_one (M := model X.prog X.w) J3.kIn look hit).here ?_)
        cases b with
        | false => exact ih (no rfl)
        | true =>
          refine codeAny_handlers_suite_as (HandSPX.lands_againZ L3 fun h4 L4 up4 => ?_)
          obtain ⟨o4, f4, e4, z4, d4⟩ := L4.there
          have J4 : Inv X pins τ G { s' with heap := h4 } := J.landed nb L4.1 ((up.trans up3).trans up4) os ag
          have S4 := J4.suite e4 d4 na nL nF
          refine store_ok (X := X.suite a ((a, o4) :: (X.pn ++ pins))) (v := .ref a) S4 hN hi (.inl hl) rfl (fun s5 S5 => ?_) (.inr hl)
          refine suite su z4 ⟨_, d4⟩ S5 (yes rfl a na) fun f s6 k => ?_
          match f, k with
          | .next, ⟨_, _, S6, q⟩ => exact gone_ok (S6.unsuite ok) hN hi hl fun s7 J7 => ⟨_, _, J7, q⟩
          | .brk, ⟨_, _, S6, q⟩ => exact gone_ok (S6.unsuite ok) hN hi hl fun s7 J7 => ⟨_, _, J7, q⟩
          | .cont, ⟨_, _, S6, q⟩ => exact gone_ok (S6.unsuite ok) hN hi hl fun s7 J7 => ⟨_, _, J7, q⟩
          | .ret _, ⟨_, _, _, S6, r6, q⟩ => exact gone_ok (S6.unsuite ok) hN hi hl fun s7 J7 => ⟨_, _, _, J7, r6, q⟩
    exact go hh wish
  case refine_2 =>
    match fl, z with
    | .next, ⟨_, _, J, q⟩ => exact wpAny_execs_nil ⟨_, _, J.ofTry ok, q⟩
    | .brk, ⟨_, _, J, q⟩ => exact ⟨_, _, J.ofTry ok, q⟩
    | .cont, ⟨_, _, J, q⟩ => exact ⟨_, _, J.ofTry ok, q⟩
    | .ret _, ⟨_, _, _, J, r, q⟩ => exact ⟨_, _, _, J.ofTry ok, r, q⟩
end
end DG

/-! a def that tells of what the lambda that it got does -/
namespace DG
open PySem PySem.Spec PyProof.Rows L2 LamX DL DX DZ
/-- an except clause: return (told, w), or return (told, pre + repr(error.f)), error being at slot i -/
inductive Cl where
  | word (C : Addr) (w : Str)
  | kept (C : Addr) (f pre : Str) (i : Nat)
def Cl.at : Cl → Addr
  | .word C _ => C
  | .kept C _ _ _ => C
def Er.at : Er → Addr
  | .plain C => C
  | .fld C _ _ => C
def sWord (told w : Str) : TSu := fun _ _ _ => tRet (tTup (tCons (tC (.str told)) (tCons (tC (.str w)) tNil)))
def sKept (K : PySem.W.Frag) (told : Str) (C : Addr) (f pre : Str) (i : Nat) : TSu := fun a cls d => tRet (tTup (tCons (tC (.str told)) (tCons (tOp rCatS (tC (.str pre)) (tCB (rReprD K) (tCons (tByE C f a cls d (tVar i)) tNil))) tNil)))
def Cl.su (K : PySem.W.Frag) (told : Str) : Cl → Value × TSu
  | .word C w => (.ref C, sWord told w)
  | .kept C f pre i => (.ref C, tAs i (sKept K told C f pre i))
def twoD (told w : Str) : D := .tup [.str told, .str w]
def fTold (told pre : Str) (d : D) : Option D := (pyD d).bind fun p => if showOk p && decide (pre.length + p.shown.length ≤ sizeLine) then some (twoD told (pre ++ p.shown)) else none
def metC (told : Str) : Cl → Er → Option D
  | .word _ w, _ => some (twoD told w)
  | .kept _ f pre _, .fld _ f' d => if f = f' then fTold told pre d else none
  | _, _ => none
def metE (told : Str) : List Cl → Er → Option D
  | [], _ => none
  | c :: cs, e => if Er.at e == c.at then metC told c e else metE told cs e
def Wno : WX := fun _ _ _ _ => False
theorem rp_two {K : PySem.W.Frag} {F H : Hp} (s : Same F H) {told w : Str} {p : Addr} (hp : H p = none) : Ext F H (upd F p (.tup [.str told, .str w])) (upd H p (.tup [.str told, .str w])) ∧ Rp K (upd F p (.tup [.str told, .str w])) (.ref p) (twoD told w) :=
  ⟨Ext.laid s hp, .obj upd_same (.tup (.cons (.str _) (.cons (.str _) .nil)))⟩
theorem two_size : ([V.str a, V.str b] : List V).length ≤ sizeLine := by show 2 ≤ sizeLine; decide
section
variable {K : PySem.W.Frag} {F H : Hp} {σ : L2.St} {D2 : Ends} {told w : Str}
theorem two_ret (s : Same F H) (k : ∀ v F' H', Ext F H F' H' → Rp K F' v (twoD told w) → D2.rt v H') : tRet (tTup (tCons (tC (.str told)) (tCons (tC (.str w)) tNil))) D2 σ H :=
  ⟨two_size, fun p hp => k _ _ _ (rp_two (K := K) s hp).1 (rp_two s hp).2⟩
theorem kept_ret {C a dx : Addr} {f pre y : Str} {i : Nat} {v : V} {d : D} {p : PyData} (s : Same F H) (hi : σ[i]? = some (some (.ref a))) (hd : H dx = some (.xd [(f, v)])) (r : Rp K F v d) (e : pyD d = some p) (ok : showOk p = true) (ey : p.shown = y)
    (hl : pre.length + y.length ≤ sizeLine) (k : ∀ v F' H', Ext F H F' H' → Rp K F' v (twoD told (pre ++ y)) → D2.rt v H') : sKept K told C f pre i a (.ref C) (some dx) D2 σ H := by
  refine ⟨.ref a, hi, rfl, rfl, dx, v, rfl, hd, F, v, d, p, rfl, s, .inl r, e, ok, pre, p.shown, rfl, rfl, by rw [ey]; exact hl, two_size, fun q hq => ?_⟩
  rw [ey]
  exact k _ _ _ (rp_two (K := K) s hq).1 (rp_two s hq).2
/-- an error that a clause takes -/
theorem met_er {e : Er} {z : D} {N : Nat} : ∀ {cs : List Cl}, (∀ c ∈ cs, PySem.W.exmOne K (.ref (Er.at e)) (.ref c.at) = some (Er.at e == c.at)) → (∀ c ∈ cs, ∀ C f pre i, c = .kept C f pre i → i < N) → metE told cs e = some z →
    ∀ {Q : VK}, (∀ v F' H', Ext F H F' H' → Rp K F' v z → Q v H') → ErTo K F H (fun cls d H' => ∀ (τ : L2.St) (D2 : Ends), τ.length = N → D2.rt = Q → wMany K Wno D2 (cs.map (Cl.su K told)) cls d τ H') e
  | [], _, _, h, _, _ => by cases h
  | c :: cs, hx, hi, h, Q, k => by
    have hx1 := hx c List.mem_cons_self
    have h : (if Er.at e == c.at then metC told c e else metE told cs e) = some z := h
    have rest := fun (q : (Er.at e == c.at) = false) => met_er (cs := cs) (fun d m => hx d (List.mem_cons_of_mem _ m)) (fun d m => hi d (List.mem_cons_of_mem _ m)) (by rw [if_neg (by rw [q]; exact Bool.false_ne_true)] at h; exact h) k
    cases hb : (Er.at e == c.at) with
    | false =>
      have rs := rest hb
      rw [hb] at hx1
      cases e with
      | plain C =>
        intro F' H' x g D2 hN hD
        refine ⟨false, ?_, (fun z => nomatch z), fun _ => rs F' H' x g D2 hN hD⟩
        cases c <;> exact hx1
      | fld C f d =>
        intro F' H' dx v x hd rv g D2 hN hD
        refine ⟨false, ?_, (fun z => nomatch z), fun _ => rs F' H' dx v x hd rv g D2 hN hD⟩
        cases c <;> exact hx1
    | true =>
      rw [hb] at hx1
      rw [if_pos hb] at h
      have eC : Er.at e = c.at := beq_iff_eq.mp hb
      cases e with
      | plain C =>
        intro F' H' x g D2 hN hD
        cases c with
        | word C' w' =>
          cases h
          exact ⟨true, hx1, fun _ a ha => two_ret x.s fun v F2 H2 x2 r2 => by rw [hD]; exact k v F2 H2 (x.trans x2) r2, (fun z => nomatch z)⟩
        | kept _ _ _ _ => cases h
      | fld C f d =>
        intro F' H' dx v x hd rv g D2 hN hD
        cases c with
        | word C' w' =>
          cases h
          exact ⟨true, hx1, fun _ a ha => two_ret x.s fun v F2 H2 x2 r2 => by rw [hD]; exact k v F2 H2 (x.trans x2) r2, (fun z => nomatch z)⟩
        | kept C' f' pre i =>
          obtain rfl : C = C' := eC
          have hq : (if f' = f then fTold told pre d else none) = some z := h
          by_cases ef : f' = f
          · rw [if_pos ef] at hq
            subst ef
            obtain ⟨p, e3, e4⟩ := Option.bind_eq_some_iff.mp (show (pyD d).bind _ = some z from hq)
            have e4 : (if showOk p && decide (pre.length + p.shown.length ≤ sizeLine) then some (twoD told (pre ++ p.shown)) else none) = some z := e4
            split at e4
            · rename_i ok
              cases e4
              rw [Bool.and_eq_true, decide_eq_true_eq] at ok
              refine ⟨true, hx1, fun _ a ha => ?_, (fun z => nomatch z)⟩
              have hlt : i < g.length := by rw [hN]; exact hi _ List.mem_cons_self _ _ _ _ rfl
              exact kept_ret (D2 := { nx := _, rt := D2.rt, bk := _, ct := _ }) x.s (List.getElem?_set_self hlt) hd rv e3 ok.1 rfl ok.2 fun v F2 H2 x2 r2 => by
                show D2.rt v H2
                rw [hD]; exact k v F2 H2 (x.trans x2) r2
            · cases e4
          · rw [if_neg ef] at hq; cases hq
end
theorem takes_len {X : Cx} {W : WX} (t : Takes X W) : Takes X (fun cls d σ H => σ.length = X.N.length → W cls d σ H) := fun u s' z => by
  obtain ⟨a, B, sI, pins, τ, G, cls, d, e, I, nb, up, sky, na, os, ag, w⟩ := z
  exact t u s' ⟨a, B, sI, pins, τ, G, cls, d, e, I, nb, up, sky, na, os, ag, w I.len⟩
/-- what the def makes of the lambda -/
def TMet (K : PySem.W.Frag) (told fine : Str) (cs : List Cl) (Ng : List Str) : (XK → Hp → VK → Prop) → Hp → VK → Prop := fun tl H Q =>
  tl (fun cls d H' => ∀ (τ : L2.St) (D2 : Ends), τ.length = Ng.length → D2.rt = Q → wMany K Wno D2 (cs.map (Cl.su K told)) cls d τ H') H (fun _ H' => 2 ≤ sizeLine ∧ ∀ p, H' p = none → Q (.ref p) (L2.upd H' p (.tup [.str told, .str fine])))
theorem met_gives {X : Cx} {Ng : List Str} {x a q told fine : Str} {sg : Scope} {g : Addr} {cdg : Value} {cs : List Cl} {h0 : ExceptHandler} {hds : List ExceptHandler} {j1 j2 : Nat} {p1 p2 p3 p4 p5 p6 p7 p8 : Pos} {x1 : Nat}
    (h00 : ∀ f : Addr, (L2.start Ng [V.ref f])[0]? = some (some (V.ref f))) (nd : Ng.Nodup)
    (hh : ∀ (f : Addr) (s : Shared) (H : Hp), HdM (cxOf C8.CX0 X.prog X.w X.K X.mg X.base Ng x sg g cdg X.A X.stack s H C8.E0).nox (h0 :: hds) (cs.map (Cl.su X.K told))) :
    GivesTo X Ng x sg g cdg [.Try [.Expr (.Call (.Name a p1) [] [] p2) p3] (h0 :: hds) [] [] p4, .Return (some (.Tuple [.Constant (.str told) j1 p5, .Constant (.str fine) j2 p6] x1 p7)) p8] a q (TMet X.K told fine cs Ng) := by
  intro f c' s H Q tl act hc h
  refine ⟨_, pss_cons (ps_try_mix (X := (cxOf C8.CX0 X.prog X.w X.K X.mg X.base Ng x sg g cdg X.A X.stack s H C8.E0).nox) (l := cs.map (Cl.su X.K told)) (Wo := Wno)
      (tb := fun W D σ H => ∃ Ech : XK, (∀ cls d σ' H', Ech cls d H' → σ'.length = Ng.length → W cls d σ' H') ∧ σ = L2.start Ng [.ref f] ∧ H c' = some (CodeO c' q) ∧ tl Ech H (fun _ H' => D.nx σ H'))
      rfl rfl nd LamX.takes0 (fun W pn xe tk _ => ?_) (hh f s H)) (pss_one (ps_ret (pe_tup (pa_cons pe_str (pa_cons pe_str pa_nil))))), ?_⟩
  · refine ⟨fun pins s' σ H' D I h' => ?_⟩
    obtain ⟨Ech, hW, h1, h2, h3⟩ := h'
    exact (pss_one (ps_expr (pos := p3) (act (fun cls d σ H => σ.length = Ng.length → W cls d σ H) pn xe Ech p1 p2 (takes_len tk) hW))).run pins s' σ H' D I ⟨by rw [h1]; exact h00 f, h2, h3⟩
  · exact ⟨_, fun cls d σ' H' z hl => z σ' _ hl rfl, rfl, hc, h⟩
end DG

namespace DG
open PySem PySem.Spec PyProof.Rows L2 LamX DL DX DZ
/-! isinstance of any value against an own class -/
structure OwnK (K : PySem.W.Frag) (C : Addr) : Prop where
  cl : Cls K C
  h2 : PySem.W.findIn K (.ref C) "__class__" = some (some (.builtin "object.__class__"))
  h3 : PySem.W.specialIn K (.builtin "object.__class__") "__get__" = some (some (.builtin "getset_descriptor.__get__"))
  h4 : PySem.W.takesIn K (.builtin "object.__class__") = some true
  h5 : PySem.W.mroIn K C (.type "object") = some true
  is : PySem.W.isClsIn K C = true
  ty : PySem.W.typeIn K (.ref C) = some (.type "type")
theorem not_in (C : Addr) : ∀ l : List String, (l.map Value.type).contains (.ref C) = false
  | [] => rfl
  | x :: l => by
    rw [List.map_cons, List.contains_cons, not_in C l, Bool.or_false]
    rfl
theorem kit_not {K : PySem.W.Frag} {C : Addr} {tn : String} (h : OwnK K C) (e : (fastFind? tn).isSome = true) : PySem.W.kitOne K (.type tn) (.ref C) = some false := by
  have hi : (PySem.W.clsIn K C).isSome = true := h.is
  have h1 : ((PySem.W.clsIn K C).isSome && PySem.W.typeIn K (.ref C) == some (.type "type")) = true := by rw [hi, h.ty]; rfl
  have hb : (Value.type tn == Value.ref C) = false := rfl
  unfold PySem.W.kitOne
  rw [hb, if_neg Bool.false_ne_true]
  refine (if_pos h1).trans ?_
  obtain ⟨r, hr⟩ := Option.isSome_iff_exists.mp e
  have e2 : fastBuiltinMro tn = some (r.mro.map .type) := by unfold fastBuiltinMro; rw [hr]; rfl
  show (fastBuiltinMro tn).map (·.contains (.ref C)) = some false
  rw [e2]
  exact congrArg some (not_in C _)
def isOwn (C : Addr) : D → Option Bool
  | .ins C' _ _ => if C' == C then some true else none
  | .non => some false
  | .bl _ => some false
  | .int _ => some false
  | .str _ => some false
  | .tup _ => some false
  | .ftup _ => some false
  | .lst _ => some false
  | .dct _ _ _ => some false
  | _ => none
theorem cb_isC {c : Cc} {C : Addr} (h : OwnK c.K C) : CB c (rIsi c.K) (fIsG (isOwn C) (isCstD C)) := fun F H vs ds z Q sm r hh k => by
  unfold fIsG at hh
  split at hh
  · rename_i x e
    split at hh
    · rename_i hq
      obtain ⟨y, h2, rfl⟩ := Option.map_eq_some_iff.mp hh
      obtain ⟨v, w, rfl, r1, r2⟩ := rbl2 r
      have cw : ClsV w (.ref C) := cls_own H e w hq (r2.h sm)
      have main : ∀ (t : Value), TyX c.K H v t → PySem.W.kitOne c.K t (.ref C) = some y → rIsi c.K [v, w] H Q := fun t ht hk => ⟨v, w, t, _, y, rfl, cw, ht, hk, k _ F H (Ext.refl sm) (.bl _)⟩
      have r1 := r1.h sm
      cases x with
      | non => cases h2; obtain rfl := rp_non r1; exact main _ (.base .non) (kit_not h (by decide +kernel))
      | bl b => cases h2; obtain rfl := rp_bl r1; exact main _ (.base (.bl _)) (kit_not h (by decide +kernel))
      | int i => cases h2; obtain rfl := rp_int r1; exact main _ (.base (.int _)) (kit_not h (by decide +kernel))
      | str i => cases h2; obtain rfl := rp_str r1; exact main _ (.base (.str _)) (kit_not h (by decide +kernel))
      | tup xs => cases h2; obtain ⟨a, xs, rfl, e1, _⟩ := rp_tup r1; exact main _ (.base (.tup e1)) (kit_not h (by decide +kernel))
      | ftup xs => cases h2; obtain ⟨a, ob, xs, rfl, e1, _⟩ := rp_ftup r1; exact main _ (.fTuple e1) (kit_not h (by decide +kernel))
      | lst xs => cases h2; obtain ⟨a, xs, rfl, e1, _⟩ := rp_lst r1; exact main _ (.base (.lst e1)) (kit_not h (by decide +kernel))
      | dct tt ks vs =>
        cases h2
        cases tt with
        | true => obtain ⟨a, kvs, rfl, e1, _⟩ := rp_dT r1; exact main _ (.base (.dT e1)) (kit_not h (by decide +kernel))
        | false => obtain ⟨a, kvs, rfl, e1, _⟩ := rp_dK r1; exact main _ (.base (.dK e1)) (kit_not h (by decide +kernel))
      | ins C' ns vs =>
        have h2 : (if C' == C then some true else none) = some y := h2
        split at h2
        · rename_i eC
          cases h2
          exact main _ (tyx_ins h.cl h.h2 h.h3 h.h4 h.h5 H (.ins C' ns vs) v eC r1) (if_pos (beq_iff_eq.mpr rfl))
        · cases h2
      | _ => cases h2
    · cases hh
  · cases hh
/-! raise C("..") of a class without __init__ -/
structure OwnErrP (K : PySem.W.Frag) (mg : Str → Option Value) (x : Str) (C : Addr) : Prop where
  q : PySem.W.excIn K C [.type "ValueError", .type "Exception", .type "BaseException", .type "object"] "ValueError.__new__" = true
  k : PySem.W.keepIn K (.ref C) = true
  sub : PySem.W.subIn K (.ref C) (.type "BaseException") = some true
  typ : PySem.W.typeIn K (.ref C) = some (.type "type")
  g : mg x = some (.ref C)
def mRaiseP (C : Addr) : M Er := fun _ => some (.plain C)
theorem sxe_raiseP {c : Cc} {E : XK} {C : Addr} : SxE c E (fun _ σ H => E (.ref C) none H) (mRaiseP C) := fun δ σ F H En e S h k => by
  cases h
  exact k F H S.ext
theorem ps_raiseP {X : Cx} {E : XK} {x m : Str} {C : Addr} {j : Nat} {p p2 p3 p4 : Pos} (hc : X.calm = true) (tk : L2.Takes X (fun cls d _ H => E cls d H)) (O : OwnErrP X.K X.mg x C) (hg : Gl X x) (hdb : (x == ("__debug__" : Str)) = false := by decide) :
    PS X (.Raise (some (.Call (.Name x p) [.Constant (.str m) j p2] [] p3)) none p4) (fun _ σ H => E (.ref C) none H) :=
  L2.ps_raise hc tk (pmk_own PySem.F.excBase_ValueError O.q O.g O.k (raises_own O.sub O.typ) hg hdb)
/-! what is never reached -/
theorem sx_never {c : Cc} : Sx c tNever mStop := fun _ _ _ _ _ _ _ h => by cases h
theorem sxe_never {c : Cc} {E : XK} : SxE c E tNever mNoE := sxe_no
/-! i ** j -/
def cPow (i j : Int) : Bool := decide (j ≥ 0) && !(j == 0) && !(i == 0 || i == 1) && !(i == -1) && !PySem.Builtin.Int.intTooBig (((PySem.Builtin.Int.intBits i : Nat) : Int) * j)
theorem cPow_ok (i j : Int) (h : cPow i j = true) : DN.CPowW i j := by
  unfold cPow at h
  simp only [Bool.and_eq_true, decide_eq_true_eq, Bool.not_eq_true', Bool.not_eq_eq_eq_not] at h
  obtain ⟨⟨⟨⟨h1, h2⟩, h3⟩, h4⟩, h5⟩ := h
  exact ⟨h1, by simp [h2], by simpa using h3, by simpa using h4, by simpa using h5⟩
end DG

/-! what may come, in a state with dice and tables -/
namespace DG
open PySem PySem.Spec PyProof.Rows L2 LamX DL DN DX DZ
section
variable {K : PySem.W.Frag} {T : List (Addr × Str)} {a : Addr} {H0 F H F' H' : Hp} {σ : L2.St} {ρ ρ' : DS}
theorem ZR.grow {H1 : Hp} (S : ZR K T a H0 F H σ ρ) (e : ExtN H H1) (t : Tabs T H1) : ZR K T a H0 (noT F) H1 σ ρ := by
  have S := S.cut
  obtain ⟨l, m, c, d⟩ := S.at
  refine S.move ⟨fun _ _ z => z, fun b o z => ?_, fun b o z => ?_, fun _ _ z _ _ => z⟩ ⟨l, m, c, e _ _ d (fun _ z => nomatch z)⟩ t
  · obtain ⟨h1, h2⟩ := hide_ne z
    obtain ⟨h3, h4⟩ := noT_some h2
    exact hide_of h1 (noT_of (e b o h3 (g_tbl h4)) h4)
  · have hb : b ≠ a := fun q => by subst q; rw [S.fr] at z; cases z
    have h4 := (noT_some z).2
    exact hide_of hb (noT_of (e b o (S.s b o z) (g_tbl h4)) h4)
/-- what an expression may give -/
def ZX (K : PySem.W.Frag) (T : List (Addr × Str)) (a : Addr) (H0 : Hp) (ρ : DS) (t : TE) (R : D → Prop) : Prop := ∀ (F H : Hp) (σ : L2.St) (Q : VK), ZR K T a H0 F H σ ρ → (∀ v d F' H', R d → ZR K T a H0 F' H' σ ρ → Same (noT F) F' → Rp K F' v d → Q v H') → t σ H Q
def ZA (K : PySem.W.Frag) (T : List (Addr × Str)) (a : Addr) (H0 : Hp) (ρ : DS) (u : TA) (R : List D → Prop) : Prop := ∀ (F H : Hp) (σ : L2.St) (Q : List V → Hp → Prop), ZR K T a H0 F H σ ρ → (∀ vs ds F' H', R ds → ZR K T a H0 F' H' σ ρ → Same (noT F) F' → RpL K F' vs ds → Q vs H') → u σ H Q
variable {t ta tb : TE} {u : TA} {R Ra Rb Rz : D → Prop} {RL : List D → Prop} {told fine : Str}
theorem noT_same (s : Same F F') : Same (noT F) F' := fun b o z => s b o (noT_some z).1
theorem noT_mono (s : Same (noT F) F') : Same (noT F) (noT F') := fun b o z => noT_of (s b o z) (noT_some z).2
theorem noT_trans {F2 : Hp} (s : Same (noT F) F') (s2 : Same (noT F') F2) : Same (noT F) F2 := fun b o z => s2 b o (noT_mono s b o z)
theorem ZX.of {m : M D} (hx : ∀ F0 H0, Ex ⟨K, F0, H0⟩ t m) (hi : Irr m) {d : D} (e : m (.unk :: ρ) = some d) : ZX K T a H0 ρ t (fun z => z = d) := fun F H σ Q S k =>
  S.ex hx hi e fun v F' H' S' s' r => k v d F' H' rfl S' (noT_same s') r
theorem ZX.imp {R' : D → Prop} (h : ZX K T a H0 ρ t R) (i : ∀ d, R d → R' d) : ZX K T a H0 ρ t R' := fun F H σ Q S k => h F H σ Q S fun v d F' H' r => k v d F' H' (i d r)
theorem ZA.nil : ZA K T a H0 ρ tNil (fun ds => ds = []) := fun F H σ Q S k => k [] [] F H rfl S (noT_same fun _ _ e => e) .nil
theorem ZA.cons (h : ZX K T a H0 ρ t R) (k : ZA K T a H0 ρ u RL) : ZA K T a H0 ρ (tCons t u) (fun ds => ∃ d es, ds = d :: es ∧ R d ∧ RL es) := fun F H σ Q S q => by
  refine h F H σ _ S fun v d F1 H1 r1 S1 s1 p1 => ?_
  refine k F1 H1 σ _ S1 fun vs es F2 H2 r2 S2 s2 p2 => ?_
  exact q (v :: vs) (d :: es) F2 H2 ⟨d, es, Eq.refl _, r1, r2⟩ S2 (noT_trans s1 s2) (.cons ((Rp.noT p1).mono s2) p2)
theorem ZX.opF {r : R2} {f : D → D → Option D} (o : ∀ F0 H0, OpF ⟨K, F0, H0⟩ r f) (ha : ZX K T a H0 ρ ta Ra) (hb : ZX K T a H0 ρ tb Rb) (hf : ∀ x y, Ra x → Rb y → ∃ z, f x y = some z ∧ Rz z) : ZX K T a H0 ρ (tOp r ta tb) Rz := fun F H σ Q S q => by
  refine ha F H σ _ S fun x d F1 H1 r1 S1 s1 p1 => ?_
  refine hb F1 H1 σ _ S1 fun y e F2 H2 r2 S2 s2 p2 => ?_
  obtain ⟨z, h1, h2⟩ := hf d e r1 r2
  exact o H0 H0 F2 H2 x y d e z Q S2.s ((Rp.noT p1).mono s2) p2 h1 fun v F3 H3 x3 p3 => q v z F3 H3 h2 (S2.up x3) (noT_trans s1 (noT_trans s2 (noT_same x3.f))) p3
/-- a drawn item -/
theorem ZX.one {E : XK} (h : ZX K T a H0 ρ t R) (h0 : ∀ d, R d → 0 < (itemsD d).length ∧ (itemsD d).length < 1073741824) : ZX K T a H0 ρ (tCall (spOne K) [] E (tCons (tVar 0) (tCons t tNil))) (fun e => ∃ d, R d ∧ e ∈ itemsD d) := fun F H σ Q S k => by
  refine ⟨_, S.slot, h F H σ _ S fun v d F1 H1 r S1 s1 p1 => ?_⟩
  exact S1.one (E := E) p1 (h0 d r).1 (h0 d r).2 fun x H2 e he S2 p2 => k x e _ H2 ⟨d, r, he⟩ S2 (noT_mono s1) p2
/-- a drawn number below a great one -/
def spRollW : Sp := fun vs H Q _ => ∃ (a : Addr) (n : Int), vs = [.ref a, .int n] ∧ DiceAt H a ∧ 0 < n ∧ n ≤ 10 ^ 30 ∧ ∀ (r : Int) (H' : Hp), 0 ≤ r → r < n → DiceAt H' a → Off a H H' → Q (.int r) H'
theorem ZX.rollW {E : XK} {n : Int} (h : ZX K T a H0 ρ t (fun d => d = .int n)) (h0 : 0 < n) (h1 : n ≤ 10 ^ 30) : ZX K T a H0 ρ (tCall spRollW [] E (tCons (tVar 0) (tCons t tNil))) (fun e => ∃ r, 0 ≤ r ∧ r < n ∧ e = .int r) := fun F H σ Q S k => by
  refine ⟨_, S.slot, h F H σ _ S fun v d F1 H1 r S1 s1 p1 => ?_⟩
  subst r
  obtain rfl := rp_int p1
  exact ⟨a, n, rfl, S1.at, h0, h1, fun r H' r0 r1 d o => k _ (.int r) _ H' ⟨r, r0, r1, rfl⟩ (S1.off o d) (noT_mono s1) (.int r)⟩
/-- the def that tells what a lambda does -/
theorem ZX.met {n : Nat} {r : List D → Option D} {x : List D → Option Er} {cs : List Cl} {Ng : List Str} (ha : ZA K T a H0 ρ u RL) (hi : ∀ c ∈ cs, ∀ C f pre i, c = .kept C f pre i → i < Ng.length)
    (hx : ∀ ds, RL ds → ds.length = n ∧ ((∃ d, r ds = some d ∧ R (twoD told fine)) ∨ ∃ er z, x ds = some er ∧ (∀ c ∈ cs, PySem.W.exmOne K (.ref (Er.at er)) (.ref c.at) = some (Er.at er == c.at)) ∧ metE told cs er = some z ∧ R z)) :
    ZX K T a H0 ρ (tLam T (TMet K told fine cs Ng) (fun E => tCall (spX K n r x) [] E u)) R := fun F H σ Q S k => by
  refine ⟨S.tabs, fun H1 eN t1 => ?_⟩
  have S1 := ZR.grow S eN t1
  refine ha (noT F) H1 σ _ S1 fun vs ds F2 H2 rl S2 s2 p2 => ?_
  have s3 : Same (noT F) F2 := fun b o z => s2 b o (noT_of z (noT_some z).2)
  obtain ⟨hl, oc⟩ := hx ds rl
  show spX K n r x (vs ++ []) H2 _ _
  rw [List.append_nil]
  refine ⟨F2, ds, S2.s, p2, hl, ?_⟩
  rcases oc with ⟨d, e1, hz⟩ | ⟨er, z, e1, ex, em, hz⟩
  · refine .inl ⟨d, e1, fun v F3 H3 x3 r3 => ⟨by decide, fun p hp => ?_⟩⟩
    have w := rp_two (K := K) (told := told) (w := fine) x3.s hp
    exact k _ _ _ _ hz ((S2.up x3).up w.1) (noT_trans s3 (noT_same (x3.trans w.1).f)) w.2
  · exact .inr ⟨er, e1, met_er ex hi em fun v F3 H3 x3 r3 => k v z F3 H3 hz (S2.up x3) (noT_trans s3 (noT_same x3.f)) r3⟩
/-! statements -/
theorem ZR.asgX {i : Nat} (h : ZX K T a H0 ρ t R) (S : ZR K T a H0 F H σ ρ) {En : Ends} (k : ∀ d σ' F' H', R d → ZR K T a H0 F' H' σ' (ρ.set i (.fro d)) → Same (noT F) F' → En.nx σ' H') : tAsg t (gName (i + 1)) En σ H :=
  h F H σ _ S fun v d F' H' r S' s' p => k d _ F' H' r (S'.set p) s'
theorem ZR.appX {i : Nat} {ds : List D} (h : ZX K T a H0 ρ t R) (hi : ρ[i]? = some (.own (.lst ds))) (hl : ds.length < sizeLine) (S : ZR K T a H0 F H σ ρ) {En : Ends} (k : ∀ d σ' F' H', R d → ZR K T a H0 F' H' σ' (ρ.set i (.own (.lst (ds ++ [d])))) → Same (noT F) F' → En.nx σ' H') :
    tDrop (tBM K "list" rAppend (tVar (i + 1)) (tCons t tNil)) En σ H := by
  have hi' : (SV.fro (.cst a) :: ρ)[i + 1]? = some (.own (.lst ds)) := by rw [List.getElem?_cons_succ]; exact hi
  have S0 := S
  obtain ⟨G, t1, d1, y1, S1⟩ := S
  obtain ⟨b, xs, h1, h2, rl⟩ := S1.ownL hi'
  refine ⟨.ref b, h1, .inl ⟨Eq.refl _, xs, SqL.of h2⟩, ?_⟩
  refine h F H σ _ S0 fun v d F' H' r S' s' p => ?_
  obtain ⟨G', t2, d2, y2, S2⟩ := S'
  obtain ⟨b', xs', h1', h2', rl'⟩ := S2.ownL hi'
  rw [h1] at h1'; cases h1'
  refine ⟨b, xs', v, Eq.refl _, Eq.refl _, h2', by rw [rl'.length]; exact hl, ?_⟩
  exact k d σ F' _ r ⟨G', t2, d2, y2, S2.change hi' h1 (.lst (rl'.app (.cons p .nil))) (Eq.refl _)⟩ s'
/-- x = [..] with drawn items, an own list -/
theorem ZR.lstX {i : Nat} (h : ZA K T a H0 ρ u RL) (hl : ∀ ds, RL ds → ds.length ≤ sizeLine) (S : ZR K T a H0 F H σ ρ) {En : Ends} (k : ∀ ds σ' F' H', RL ds → ZR K T a H0 F' H' σ' (ρ.set i (.own (.lst ds))) → Same (noT F) F' → En.nx σ' H') : tAsg (tLst u) (gName (i + 1)) En σ H := by
  refine h F H σ _ S fun vs ds F1 H1 r S1 s1 p1 => ⟨by rw [p1.length]; exact hl ds r, fun p hp => ?_⟩
  obtain ⟨G, t2, d2, y2, S2⟩ := S1
  exact k ds _ F1 _ r ⟨G, t2, d2, y2, S2.setOwn (i := i + 1) (Ext.temp S2.sFH hp) hp upd_same (none_of S2.sFH hp) (.lst p1) (Eq.refl _)⟩ s1
/-- a def in whose first argument something is drawn: as if it stood at a further slot -/
theorem ZR.push (S : ZR K T a H0 F H σ ρ) {v : V} {d : D} (r : Rp K F v d) : ZR K T a H0 F H (σ ++ [some v]) (ρ ++ [.fro d]) := by
  obtain ⟨G, t, d1, y, S⟩ := S
  have hlen := S.len
  have get1 : ∀ {i : Nat} {s : SV}, ((SV.fro (.cst a) :: ρ) ++ [SV.fro d])[i]? = some s → (i < σ.length ∧ (SV.fro (.cst a) :: ρ)[i]? = some s) ∨ (i = σ.length ∧ s = .fro d) := fun {i s} h => by
    by_cases hi : i < σ.length
    · rw [List.getElem?_append_left (by rw [← hlen]; exact hi)] at h
      exact .inl ⟨hi, h⟩
    · rw [List.getElem?_append_right (by rw [← hlen]; omega), ← hlen] at h
      by_cases e : i = σ.length
      · subst e
        rw [Nat.sub_self] at h
        cases h
        exact .inr ⟨rfl, rfl⟩
      · have : ([SV.fro d] : DS)[i - σ.length]? = none := by
          apply List.getElem?_eq_none
          show 1 ≤ _
          omega
        rw [this] at h
        cases h
  have old : ∀ {i : Nat}, i < σ.length → (σ ++ [some v])[i]? = σ[i]? := fun h => List.getElem?_append_left h
  refine ⟨G, t, d1, y, ⟨S.ext, by rw [List.length_append, hlen]; simp, fun i e h => ?_, fun i e h => ?_, fun i e h => ?_, fun i j b e1 e2 h1 h2 g1 g2 => ?_⟩⟩
  · rcases get1 (show ((SV.fro (.cst a) :: ρ) ++ [SV.fro d])[i]? = _ from h) with ⟨hi, q⟩ | ⟨hi, q⟩
    · obtain ⟨w, z1, z2⟩ := S.fro i e q
      exact ⟨w, by rw [old hi]; exact z1, z2⟩
    · cases q
      exact ⟨v, by rw [hi, List.getElem?_append_right (Nat.le_refl _), Nat.sub_self]; rfl, r⟩
  · rcases get1 (show ((SV.fro (.cst a) :: ρ) ++ [SV.fro d])[i]? = _ from h) with ⟨hi, q⟩ | ⟨hi, q⟩
    · obtain ⟨b, o, z1, z2⟩ := S.own i e q
      exact ⟨b, o, by rw [old hi]; exact z1, z2⟩
    · cases q
  · rcases get1 (show ((SV.fro (.cst a) :: ρ) ++ [SV.fro d])[i]? = _ from h) with ⟨_, q⟩ | ⟨_, q⟩
    · exact S.nt i e q
    · cases q
  · rcases get1 (show ((SV.fro (.cst a) :: ρ) ++ [SV.fro d])[i]? = _ from h1) with ⟨hi, q1⟩ | ⟨_, q1⟩
    · rcases get1 (show ((SV.fro (.cst a) :: ρ) ++ [SV.fro d])[j]? = _ from h2) with ⟨hj, q2⟩ | ⟨_, q2⟩
      · rw [old hi] at g1
        rw [old hj] at g2
        exact S.dis i j b e1 e2 q1 q2 g1 g2
      · cases q2
    · cases q1
theorem ZR.pop {s : SV} {v : Option V} (S : ZR K T a H0 F H (σ ++ [v]) (ρ ++ [s])) : ZR K T a H0 F H σ ρ := by
  obtain ⟨G, t, d1, y, S⟩ := S
  have hlen : σ.length = (SV.fro (.cst a) :: ρ).length := by
    have := S.len
    simp at this
    simpa using this
  have up : ∀ {i : Nat} {s' : SV}, (SV.fro (.cst a) :: ρ)[i]? = some s' → ((SV.fro (.cst a) :: (ρ ++ [s])))[i]? = some s' ∧ (σ ++ [v])[i]? = σ[i]? := fun {i s'} h => by
    have hi : i < (SV.fro (.cst a) :: ρ).length := (List.getElem?_eq_some_iff.mp h).1
    refine ⟨?_, List.getElem?_append_left (by rw [hlen]; exact hi)⟩
    show ((SV.fro (.cst a) :: ρ) ++ [s])[i]? = _
    rw [List.getElem?_append_left hi]
    exact h
  refine ⟨G, t, d1, y, ⟨S.ext, hlen, fun i e h => ?_, fun i e h => ?_, fun i e h => S.nt i e (up h).1, fun i j b e1 e2 h1 h2 g1 g2 => ?_⟩⟩
  · obtain ⟨w, z1, z2⟩ := S.fro i e (up h).1
    exact ⟨w, by rw [← (up h).2]; exact z1, z2⟩
  · obtain ⟨b, o, z1, z2⟩ := S.own i e (up h).1
    exact ⟨b, o, by rw [← (up h).2]; exact z1, z2⟩
  · exact S.dis i j b e1 e2 (up h1).1 (up h2).1 (by rw [(up h1).2]; exact g1) (by rw [(up h2).2]; exact g2)
/-- u asks its argument first, and the slots through it alone -/
theorem ZX.via {w : TE → TE} {body : V → Hp → VK → Prop} (hw : ∀ t σ H Q, w t σ H Q = t σ H (fun v H1 => body v H1 Q)) (h : ZX K T a H0 ρ t R) (k : ∀ d, R d → ZX K T a H0 (ρ ++ [.fro d]) (w (tVar (ρ.length + 1))) Rz) : ZX K T a H0 ρ (w t) Rz := fun F H σ Q S q => by
  rw [hw]
  refine h F H σ _ S fun v d F1 H1 r S1 s1 p1 => ?_
  have z := k d r F1 H1 (σ ++ [some v]) Q (ZR.push S1 p1) fun v2 d2 F2 H2 r2 S2 s2 p2 => q v2 d2 F2 H2 r2 (ZR.pop S2) (noT_trans s1 s2) p2
  rw [hw] at z
  obtain ⟨v', e, z⟩ := z
  have hl : σ.length = ρ.length + 1 := by
    obtain ⟨_, _, _, _, S2⟩ := S1
    exact S2.len
  rw [← hl, List.getElem?_append_right (Nat.le_refl _), Nat.sub_self] at e
  cases e
  exact z
end
end DG

/-! lcm; int of a truth value -/
namespace DX
open PySem PySem.Spec PyProof.Rows L2 DL
def rLcm : List V → Hp → VK → Prop := fun vs H Q => ∃ a b : Int, vs = [.int a, .int b] ∧ a.natAbs < 2 ^ 64 ∧ b.natAbs < 2 ^ 64 ∧ Q (.int ((Nat.lcm a.natAbs b.natAbs : Nat) : Int)) H
theorem call_lcm {X : Cx} : CallR X (.builtin "math.lcm") rLcm := by
  intro pins s σ H vs us Q I r h
  obtain ⟨a, b, rfl, h1, h2, q⟩ := h
  obtain ⟨t, u, rfl⟩ := Vals.int2 r
  exact PySem.W.mc_lcm h1 h2 fun _ => ⟨.int _, H, I.tok _, ⟨_, rfl⟩, q⟩
def f2 (f : D → D → Option D) : List D → Option D
  | [d, e] => f d e
  | _ => none
theorem f2_some {f : D → D → Option D} {ds : List D} {z : D} (h : f2 f ds = some z) : ∃ d e, ds = [d, e] ∧ f d e = some z := by
  cases ds with
  | nil => cases h
  | cons d t =>
    cases t with
    | nil => cases h
    | cons e t =>
      cases t with
      | nil => exact ⟨d, e, rfl, h⟩
      | cons _ _ => cases h
def fLcm : D → D → Option D
  | .int a, .int b => if a.natAbs < 2 ^ 64 ∧ b.natAbs < 2 ^ 64 then some (.int ((Nat.lcm a.natAbs b.natAbs : Nat) : Int)) else none
  | _, _ => none
theorem bLcm {c : Cc} : CB c rLcm (f2 fLcm) := fun F H vs ds z Q s r h k => by
  obtain ⟨d, e, rfl, h⟩ := f2_some h
  obtain ⟨v, w, rfl, r1, r2⟩ := rbl2 r
  cases d with
  | int a =>
    cases e with
    | int b =>
      have h : (if a.natAbs < 2 ^ 64 ∧ b.natAbs < 2 ^ 64 then some (D.int ((Nat.lcm a.natAbs b.natAbs : Nat) : Int)) else none) = some z := h
      split at h
      · rename_i hl
        cases h
        obtain rfl := rp_int (r1.h s)
        obtain rfl := rp_int (r2.h s)
        exact ⟨a, b, rfl, hl.1, hl.2, k _ F H (Ext.refl s) (.int _)⟩
      · cases h
    | _ => cases h
  | _ => cases h
end DX

/-! C.m(..), a classmethod; cls(..), cls a local name; a list times a number; a, b = a list -/
namespace DX
open PySem PySem.Spec PyProof.Rows L2 DL
section
variable {X : Cx} {CX : CXT} {k i : Nat} {C f : Addr} {fd : FuncData} {ps : List Str} {sp : Sp} {dvs : List V} {ds : List Value} {E : XK} {x : Str} {e : Expr} {es : List Expr} {t : TA} {p pos : Pos}
/-- x(e, ..), the class at C in slot i -/
def tMakeV (i : Nat) (C : Addr) (sp : Sp) (dvs : List V) (E : XK) (t : TA) : TE := fun σ H Q => σ[i]? = some (some (.ref C)) ∧ tMake C sp dvs E t σ H Q
theorem pe_makeV (M : Mk X.K C f) (F : FnOk X.prog X.w X.K X.mg X.base CX k f fd ps sp) (hr : Room (k + 1) X.A) (hb : Binds X.K fd ps ds) (hd : Vals dvs ds) (hx : Passes CX X E) (hN : X.N[i]? = some x) (hv : Vis X.env.scope x) (ha : PA X (e :: es) t)
    (hdb : (x == ("__debug__" : Str)) = false := by decide) (hcd : (x == ("__classdict__" : Str)) = false := by decide)
    (he : starEach (e :: es) X.env = (false, eval e X.env) :: starEach es X.env := by rfl) (hpl : (backTo pos (starEach es X.env)).any (·.1) = false := by rfl) :
    PE X (.Call (.Name x p) (e :: es) [] pos) (tMakeV i C sp dvs E t) := by
  refine ⟨fun pins s σ H Q I h => wpAny_Call_Name_kw ?_⟩
  refine thn ((pe_var (pos := p) (i := i) hN hv hdb hcd).run pins s σ H (fun v H1 => v = .ref C ∧ H1 = H) I ⟨.ref C, h.1, rfl, rfl⟩) fun u s1 ⟨v, H1, I1, r1, ev, eH⟩ => ?_
  subst ev
  subst eH
  cases r1
  refine PySem.W.callWith_K (h₀ := X.base) I.ok.mod.kin M.kp (thn (ha.run pos pins s1 σ _ _ I1 h.2) fun us s2 ⟨vs, H2, I2, r, q⟩ => ⟨I2.kIn, ?_⟩) he hpl
  exact run_make M F hr hb hd hx I2 r q
end
section
variable {c : Cc} {ta tb : TE} {ma mb : M D}
def mMakeV (i : Nat) (C : Addr) (r : D → Option D) (ma : M D) : M D := fun δ => match δ[i]? with
  | some (SV.fro (.cst C')) => if C' = C then (ma δ).bind r else none
  | _ => none
theorem ox_makeV {C : Addr} {r : D → Option D} (i : Nat) (ha : Ex c ta ma) : Ox c (tMakeV i C (spSelf c.K C r) [] E0 (tCons ta tNil)) (mMakeV i C r ma) := fun δ σ F H Q z S e k => by
  unfold mMakeV at e
  split at e
  · rename_i C' q
    split at e
    · rename_i hc
      subst hc
      obtain ⟨v, h1, h2⟩ := S.fro i _ q
      refine ⟨?_, ox_make ha δ σ F H Q z S e k⟩
      cases h2 with
      | cst a => exact h1
      | obj _ o => cases o
    · cases e
  · cases e
/-- C.m(e, ..) -/
def mCMeth (C : Addr) (n : Nat) (r : List D → Option D) (m : M (List D)) : M D := fun δ => (m δ).bind fun ds => if ds.length + 1 = n then r (.cst C :: ds) else none
theorem ex_cmeth {C : Addr} {n : Nat} {r : List D → Option D} {t : TA} {m : M (List D)} {E : XK} (h : Ax c t m) : Ex c (ClX.tCMeth C (spD c.K n r) E (tC (.ref C)) t) (mCMeth C n r m) := fun δ σ F H Q z S e k => by
  obtain ⟨ds, e1, e2⟩ := Option.bind_eq_some_iff.mp (show (m δ).bind _ = some z from e)
  split at e2
  · rename_i hl
    refine ⟨rfl, h δ σ F H _ ds S e1 fun vs F1 H1 x1 r1 => ?_⟩
    exact ⟨F1, .cst C :: ds, z, x1.s, .cons (.cst C) r1, by rw [List.length_cons]; exact hl, e2, fun v F2 H2 x2 r2 => k v F2 H2 (x1.trans x2) r2⟩
  · cases e2
/-- a classmethod of a class -/
structure OwnCM (P : Program) (w : World) (K : PySem.W.Frag) (mg : Str → Option Value) (base : Heap) (lvl : Nat) (C : Addr) (x : Str) (n : Nat) (r : List D → Option D) where
  p : Addr
  g : Addr
  fd : FuncData
  ps : List Str
  F : FnOk P w K mg base CX0 lvl g fd ps (spD K n r)
  b : Binds K fd ps []
  rd : ClX.CRead K C (.type "type")
  at_ : ClX.CMet K C (.type "type") x p g
theorem OwnCM.fn {P : Program} {w : World} {K : PySem.W.Frag} {mg : Str → Option Value} {base : Heap} {lvl : Nat} {C : Addr} {x : Str} {n : Nat} {r : List D → Option D} (O : OwnCM P w K mg base lvl C x n r) : FnR P w K mg base CX0 lvl O.g (spD K n r) :=
  (O.F.raw O.b .nil).imp fun vs H Q E h => by rw [List.append_nil]; exact h
/-- [x] * n -/
def fRepL : D → D → Option D
  | .lst ds, .int k => if 0 ≤ k ∧ k < 1000 ∧ ds.length ≤ 1000 then some (.lst (List.replicate k.toNat ds).flatten) else none
  | _, _ => none
theorem rpl_flat {K : PySem.W.Frag} {F : Hp} {xs : List V} {ds : List D} (r : RpL K F xs ds) : ∀ n : Nat, RpL K F (List.replicate n xs).flatten (List.replicate n ds).flatten
  | 0 => .nil
  | n + 1 => by
    rw [List.replicate_succ, List.replicate_succ, List.flatten_cons, List.flatten_cons]
    exact r.app (rpl_flat r n)
theorem ox_repL (ha : Bx c ta ma) (hb : Bx c tb mb) : Ox c (tOp rRep ta tb) (m2 fRepL ma mb) := fun δ σ F H Q z S e k => by
  obtain ⟨d1, d2, e1, e2, e3⟩ := m2_some e
  refine ha δ σ F H _ d1 S e1 fun x F1 H1 x1 r1 => ?_
  refine hb δ σ F1 H1 _ d2 (S.up x1) e2 fun y F2 H2 x2 r2 => ?_
  cases d1 with
  | lst ds =>
    cases d2 with
    | int n =>
      have e3 : (if 0 ≤ n ∧ n < 1000 ∧ ds.length ≤ 1000 then some (D.lst (List.replicate n.toNat ds).flatten) else none) = some z := e3
      split at e3
      · rename_i hl
        cases e3
        obtain ⟨h1, h2, h3⟩ := hl
        obtain rfl := rp_int (r2.h x2.s)
        obtain ⟨a, xs, rfl, ea, rl⟩ := (r1.up x2).lst x2.s
        refine ⟨a, n, xs, rfl, rfl, ea, by omega, by omega, ?_, fun p hp => ?_⟩
        · rw [rl.length, sizeLine_eq]
          exact Nat.le_trans (Nat.mul_le_mul h3 (show n.toNat ≤ 1000 by omega)) (by omega)
        · refine k p _ F2 _ ((x1.trans x2).trans (Ext.temp x2.s hp)) (ext_none (x1.trans x2) ?_).2 upd_same (none_of x2.s hp) (.lst (rpl_flat rl _))
          exact hp
      · cases e3
    | _ => cases e3
  | _ => cases e3
theorem gx_lst {n : Nat} {gs : TGs} {b : DS → List D → Option DS} (h : GsX c gs b) : Gx c (gLst c.K n gs) (fun δ d => (lstD d).bind fun ds => if ds.length = n then b δ ds else none) := fun δ δ' σ F H Q v d S r e k => by
  obtain ⟨ds, e1, e2⟩ := Option.bind_eq_some_iff.mp e
  split at e2
  · rename_i hl
    obtain rfl := lstD_ok e1
    obtain ⟨a, xs, rfl, hs, rl⟩ := rp_lst r
    exact ⟨a, xs, rfl, SqL.of (S.sFH _ _ hs), by rw [rl.length]; exact hl, h δ δ' σ F H Q xs ds S rl e2 k⟩
  · cases e2
end
end DX

namespace DG
open PySem PySem.Spec PyProof.Rows L2 LamX DL DN DX DZ
/-! gcd -/
def fGcd : D → D → Option D
  | .int a, .int b => some (.int ((Nat.gcd a.natAbs b.natAbs : Nat) : Int))
  | _, _ => none
theorem bGcd {c : Cc} : CB c rGcd (f2 fGcd) := fun F H vs ds z Q s r h k => by
  obtain ⟨d, e, rfl, h⟩ := f2_some h
  obtain ⟨v, w, rfl, r1, r2⟩ := rbl2 r
  cases d with
  | int a =>
    cases e with
    | int b =>
      cases h
      obtain rfl := rp_int (r1.h s)
      obtain rfl := rp_int (r2.h s)
      exact ⟨a, b, rfl, k _ F H (Ext.refl s) (.int _)⟩
    | _ => cases h
  | _ => cases h
/-! xs[i], xs[j] = a, b of an own list -/
def putL (i j : Nat) (δ : DS) (d : D) : Option DS := match DL.ownAt i δ, mFro j δ with
  | some (.lst ds), some (.int k) => (ixN ds.length k).map fun n => δ.set i (.own (.lst (ds.set n d)))
  | _, _ => none
theorem putL_ok {c : Cc} {δ δ' : DS} {σ : L2.St} {F H : Hp} {i j : Nat} {v : V} {d : D} (S : SR c.K c.F0 c.H0 F H σ δ) (r : Rp c.K F v d) (e : putL i j δ d = some δ') {Q : L2.St → Hp → Prop} (k : ∀ H', SR c.K c.F0 c.H0 F H' σ δ' → Q σ H') : gSub (tVar i) (tVar j) rSetL v σ H Q := by
  unfold putL at e
  split at e
  · rename_i ds z q1 q2
    obtain ⟨n, e1, rfl⟩ := Option.map_eq_some_iff.mp e
    have h1 : δ[i]? = some (.own (.lst ds)) := by
      unfold DL.ownAt at q1
      split at q1
      · rename_i d' h; cases q1; exact h
      · cases q1
    obtain ⟨w, h2, r2⟩ : ∃ w, σ[j]? = some (some w) ∧ Rp c.K F w (.int z) := by
      unfold mFro at q2
      split at q2
      · rename_i d' h; cases q2; exact S.fro j _ h
      · cases q2
    obtain rfl := rp_int r2
    obtain ⟨b, xs, g1, g2, rl⟩ := S.ownL h1
    refine ⟨.ref b, g1, .int z, h2, b, xs, z, n, rfl, rfl, g2, by rw [rl.length]; exact e1, ?_⟩
    exact k _ (S.change h1 g1 (.lst (RpL.set r n rl)) rfl)
  · cases e
def mPut2 (i j l : Nat) (m n : M D) : M Fl := fun δ => (m δ).bind fun d => (n δ).bind fun e => (putL i j δ d).bind fun δ1 => (putL i l δ1 e).map Fl.nx
theorem sx_put2 {c : Cc} {ta tb : TE} {m n : M D} (i j l : Nat) (ha : Ex c ta m) (hb : Ex c tb n) : Sx c (tAsg (tTup (tCons ta (tCons tb tNil))) (gTup c.K 2 (gCons (gSub (tVar i) (tVar j) rSetL) (gCons (gSub (tVar i) (tVar l) rSetL) gNil)))) (mPut2 i j l m n) := fun δ σ F H En fl S e k => by
  obtain ⟨d, e1, e⟩ := Option.bind_eq_some_iff.mp (show (m δ).bind _ = some fl from e)
  obtain ⟨d2, e2, e⟩ := Option.bind_eq_some_iff.mp e
  obtain ⟨δ1, e3, e⟩ := Option.bind_eq_some_iff.mp e
  obtain ⟨δ2, e4, rfl⟩ := Option.map_eq_some_iff.mp e
  refine ha δ σ F H _ d S e1 fun v F1 H1 x1 r1 => ?_
  refine hb δ σ F1 H1 _ d2 (S.up x1) e2 fun w F2 H2 x2 r2 => ⟨two_le, fun p hp => ?_⟩
  have x3 : Ext F2 H2 (upd F2 p (.tup [v, w])) (upd H2 p (.tup [v, w])) := Ext.laid x2.s hp
  have S3 := ((S.up x1).up x2).up x3
  refine ⟨p, [v, w], rfl, SqT.of upd_same, rfl, v, [w], rfl, ?_⟩
  refine putL_ok S3 ((r1.mono x2.f).mono x3.f) e3 fun H4 S4 => ⟨w, [], rfl, ?_⟩
  exact putL_ok S4 (r2.mono x3.f) e4 fun H5 S5 => ⟨rfl, k _ _ _ S5 ((x1.f.trans x2.f).trans x3.f)⟩
where two_le : ∀ {x y : V}, ([x, y] : List V).length ≤ sizeLine := by intros; show 2 ≤ sizeLine; decide
end DG

namespace K77
open PySem PySem.Spec PyProof.Rows L2 DL DX DG DN
abbrev aG : Addr := 275
abbrev aR : Addr := 124
abbrev aIN : Addr := 84
abbrev aIG : Addr := 65
abbrev aPR : Addr := 149
structure Txt (K : PySem.W.Frag) : Prop where
  cl : Cls K aG
  n_moves : NoAttr K aG "_moves"
  n_members : NoAttr K aG "_members"
  n_products : NoAttr K aG "_products"
  n_inverses : NoAttr K aG "_inverses"
  h2 : PySem.W.findIn K (.ref aG) "__class__" = some (some (.builtin "object.__class__"))
  h3 : PySem.W.specialIn K (.builtin "object.__class__") "__get__" = some (some (.builtin "getset_descriptor.__get__"))
  h4 : PySem.W.takesIn K (.builtin "object.__class__") = some true
  h5 : PySem.W.mroIn K aG (.type "object") = some true
  kit : PySem.W.kitOne K (.ref aG) (.ref aG) = some true
def top (i : Nat) : Stmt := PySem.Challenge.pw_groupsover_k77_errors_of_what_comes_agai.main.body.getD i (.Pass ⟨0, 0, 0, 0⟩)
abbrev sis_short : Stmt := top 9
theorem scis_short : FnScope ["number"] ["number"] (defScope sis_short) := ⟨rfl, rfl, rfl, by decide +kernel, rfl, by decide +kernel, by decide +kernel⟩
def mis_short : M Fl := mRet (mChain (fB fun i j => decide (i < j)) (fB fun i j => decide (i < j)) (mF fNeg (mC (.int (10 ^ 60)))) (mAny 0) (mC (.int (10 ^ 60))))
def r_is_short : List D → Option D := runD 1 mis_short
section
variable {P : Program} {w : World} {K : PySem.W.Frag} {mg : Str → Option Value} {base : Heap}
theorem ok_is_short {f : Addr} {fd : FuncData} (F : Fun K "is_short" "is_short" sis_short f fd) (g_FIRST_TOO_LONG : ∃ t, mg "FIRST_TOO_LONG" = some (.int (10 ^ 60) t)) : FnOk P w K mg base CX0 1 f fd ["number"] (spD K 1 r_is_short) := by
  have sc := scis_short
  refine F.ok sc (fun vs H Q E h => spD_len h) (fun cdv A outer s H vs Q E hr h => ?_)
  refine ⟨tRet (tChain (rI0 fun i j => V.bl (decide (i < j))) (rI0 fun i j => V.bl (decide (i < j))) (tUn (rU fun i => .int (-i)) (tC (.int (10 ^ 60)))) (tVar 0) (tC (.int (10 ^ 60)))), pss_one (ps_ret (pe_chain op_lt op_lt (pe_un un_neg (pe_glob rfl g_FIRST_TOO_LONG.choose_spec ⟨_, rfl⟩)) (pv 0) (pe_glob rfl g_FIRST_TOO_LONG.choose_spec ⟨_, rfl⟩))), ?_⟩
  exact body_end (m := mis_short) h (fun F0 H0 => sx_ret (ex_chain (op_rB) (op_rB) ((ex_neg (ex_int (10 ^ 60))).b) (bx_var 0) ((ex_int (10 ^ 60)).b)))
end
abbrev sis_integer : Stmt := top 10
theorem scis_integer : FnScope ["value"] ["value"] (defScope sis_integer) := ⟨rfl, rfl, rfl, by decide +kernel, rfl, by decide +kernel, by decide +kernel⟩
def mis_integer : M Fl := mRet (mAndV (mB (fIsG kInt (isTyD "int")) (mCons (mAny 0) (mCons (mC (.ty "int")) mNil))) (mAndV (mNotV (mB (fIsG kBool (isTyD "bool")) (mCons (mAny 0) (mCons (mC (.ty "bool")) mNil)))) (mCall 1 r_is_short (mCons (mFro 0) (mNil)))))
def r_is_integer : List D → Option D := runD 1 mis_integer
section
variable {P : Program} {w : World} {K : PySem.W.Frag} {mg : Str → Option Value} {base : Heap}
theorem ok_is_integer {f : Addr} {fd : FuncData} (F : Fun K "is_integer" "is_integer" sis_integer f fd) (F_is_short : Own P w K mg base 1 "is_short" 1 r_is_short) (z_bool : mg "bool" = none) (z_int : mg "int" = none) (z_isinstance : mg "isinstance" = none) : FnOk P w K mg base CX0 2 f fd ["value"] (spD K 1 r_is_integer) := by
  have sc := scis_integer
  refine F.ok sc (fun vs H Q E h => spD_len h) (fun cdv A outer s H vs Q E hr h => ?_)
  refine ⟨tRet (tAndV (tCB (rIsi K) (tCons (tVar 0) (tCons (tC (.ty "int")) tNil))) (tAndV (tNotV (tCB (rIsi K) (tCons (tVar 0) (tCons (tC (.ty "bool")) tNil)))) (tCall (spD K 1 r_is_short) [] E0 (tCons (tVar 0) (tNil))))), pss_one (ps_ret (pe_and (pe_callB call_isi rfl z_isinstance (by decide +kernel) (pa_cons (pv 0) (pa_cons (pe_bltn rfl z_int (by decide +kernel) rfl) pa_nil))) (pe_and (pe_not (pe_callB call_isi rfl z_isinstance (by decide +kernel) (pa_cons (pv 0) (pa_cons (pe_bltn rfl z_bool (by decide +kernel) rfl) pa_nil)))) (pe_one (pe_call F_is_short.F (hr.mono (by decide)) rfl F_is_short.g F_is_short.k F_is_short.b .nil pass0 (pa_cons (pv 0) (pa_nil))))))), ?_⟩
  exact body_end (m := mis_integer) h (fun F0 H0 => sx_ret (ex_and ((ex_cb bIsInt (ab_cons (bx_var 0) (ab_cons ((ex_ty "int").b) ab_nil))).b) (ex_and ((ex_not ((ex_cb bIsBool (ab_cons (bx_var 0) (ab_cons ((ex_ty "bool").b) ab_nil))).b)).b) (ex_call (ax_cons (ex_var 0) (ax_nil))))))
end
abbrev sis_within : Stmt := top 11
theorem scis_within : FnScope ["value", "least", "most"] ["value", "least", "most"] (defScope sis_within) := ⟨rfl, rfl, rfl, by decide +kernel, rfl, by decide +kernel, by decide +kernel⟩
def mis_within : M Fl := mRet (mAndV (mCall 1 r_is_integer (mCons (mFro 0) (mNil))) (mChain (fB fun i j => decide (i ≤ j)) (fB fun i j => decide (i ≤ j)) (mAny 1) (mAny 0) (mAny 2)))
def r_is_within : List D → Option D := runD 3 mis_within
section
variable {P : Program} {w : World} {K : PySem.W.Frag} {mg : Str → Option Value} {base : Heap}
theorem ok_is_within {f : Addr} {fd : FuncData} (F : Fun K "is_within" "is_within" sis_within f fd) (F_is_integer : Own P w K mg base 2 "is_integer" 1 r_is_integer) : FnOk P w K mg base CX0 3 f fd ["value", "least", "most"] (spD K 3 r_is_within) := by
  have sc := scis_within
  refine F.ok sc (fun vs H Q E h => spD_len h) (fun cdv A outer s H vs Q E hr h => ?_)
  refine ⟨tRet (tAndV (tCall (spD K 1 r_is_integer) [] E0 (tCons (tVar 0) (tNil))) (tChain (rI0 fun i j => V.bl (decide (i ≤ j))) (rI0 fun i j => V.bl (decide (i ≤ j))) (tVar 1) (tVar 0) (tVar 2))), pss_one (ps_ret (pe_and (pe_call F_is_integer.F (hr.mono (by decide)) rfl F_is_integer.g F_is_integer.k F_is_integer.b .nil pass0 (pa_cons (pv 0) (pa_nil))) (pe_one (pe_chain op_le op_le (pv 1) (pv 0) (pv 2))))), ?_⟩
  exact body_end (m := mis_within) h (fun F0 H0 => sx_ret (ex_and ((ex_call (ax_cons (ex_var 0) (ax_nil))).b) (ex_chain (op_rB) (op_rB) (bx_var 1) (bx_var 0) (bx_var 2))))
end
abbrev sjoined : Stmt := top 20
theorem scjoined : FnScope ["one", "other", "place"] ["one", "other"] (defScope sjoined) := ⟨rfl, rfl, rfl, by decide +kernel, rfl, by decide +kernel, by decide +kernel⟩
def mjoined : M Fl := mRet (mB (f1 fun d => (lstD d).map D.tup) (mCons (mLc [2] (mItT (mFro 1)) (stN 2) (fun _ => some true) (m2 fIx (mAny 0) (mAny 2))) (mNil)))
def r_joined : List D → Option D := runD 3 mjoined
section
variable {P : Program} {w : World} {K : PySem.W.Frag} {mg : Str → Option Value} {base : Heap}
theorem ok_joined {f : Addr} {fd : FuncData} (F : Fun K "joined" "joined" sjoined f fd) (z_tuple : mg "tuple" = none) : FnOk P w K mg base CX0 1 f fd ["one", "other"] (spD K 2 r_joined) := by
  have sc := scjoined
  refine F.ok sc (fun vs H Q E h => spD_len h) (fun cdv A outer s H vs Q E hr h => ?_)
  refine ⟨tRet (tCB (rTupQ K) (tCons (tLc (iTup K (tVar 1)) (gName 2) (tYes) (tOp (rIx K) (tVar 0) (tVar 2)) [2]) (tNil))), pss_one (ps_ret (pe_callTy hTupQ rfl z_tuple (by decide +kernel) (pa_cons (pe_lc (own := [("place", 2)]) rfl sc.nd (pi_tup (pv 1)) (blkOk_by (by rfl)) (fun _ _ _ _ _ => pg_name (i := 2) sc.nd rfl (.inl rfl)) (fun _ _ _ _ _ => pts_nil) (fun _ _ _ _ _ => pe_ix ix_seq (pv 0) (pv 2) (fun _ _ => rfl))) (pa_nil)))), ?_⟩
  exact body_end (m := mjoined) h (fun F0 H0 => sx_ret (ex_cb bTupQ (ab_cons ((ox_lc (wx_tup (ex_var 1)) (gw_name 2) (tx_yes) (ex_ix (bx_var 0) (bx_var 2))).b) (ab_nil))))
end
abbrev sall_renamings : Stmt := top 21
theorem scall_renamings : FnScope ["moves", "start", "found", "waiting", "known", "move", "further"] ["moves"] (defScope sall_renamings) := ⟨rfl, rfl, rfl, by decide +kernel, rfl, by decide +kernel, by decide +kernel⟩
def mall_renamings : M Fl := mSeq (mAsg (mF fTupR (mB (f1 fLen) (mCons (m2 fIx (mAny 0) (mC (.int 0))) (mNil)))) (stN 1)) (mSeq (mOwn 2 (mDispT (mFro 1) (mC (.bl true)))) (mSeq (mOwn 3 (mLst (mCons (mFro 1) (mNil)))) (mSeq (mWhile 400 (mTru (mAny 3)) (mSeq (mPop 3 4) (mSeq (mFor (mItT (mFro 0)) (stN 5) (mSeq (mAsg (mCall 2 r_joined (mCons (mFro 4) (mCons (mFro 5) (mNil)))) (stN 6)) (mIf (mBool (m2 (fun e d => fHas true d e) (mAny 6) (mAny 2))) (mSeq (mPut 2 (mFro 6) (mC (.bl true))) (mAppend 3 (mFro 6))) (mNext)))) (mIf (mBool (m2 (fB fun i j => decide (j < i)) (mB (f1 fLenT) (mCons (mAny 2) (mNil))) (mC (.int (32))))) (mStop) (mNext))))) (mRet (mB (f1 fun d => (lstD d).map D.tup) (mCons (mB (f1 fSortedTD) (mCons (mAny 2) (mNil))) (mNil)))))))
def r_all_renamings : List D → Option D := runD 7 mall_renamings
section
variable {P : Program} {w : World} {K : PySem.W.Frag} {mg : Str → Option Value} {base : Heap}
theorem ok_all_renamings {f : Addr} {fd : FuncData} (F : Fun K "all_renamings" "all_renamings" sall_renamings f fd) (F_joined : Own P w K mg base 1 "joined" 2 r_joined) (g_MAX_SIZE : ∃ t, mg "MAX_SIZE" = some (.int (32) t)) (z_len : mg "len" = none) (z_range : mg "range" = none) (z_sorted : mg "sorted" = none) (z_tuple : mg "tuple" = none) : FnOk P w K mg base CX0 2 f fd ["moves"] (spD K 1 r_all_renamings) := by
  have sc := scall_renamings
  refine F.ok sc (fun vs H Q E h => spD_len h) (fun cdv A outer s H vs Q E hr h => ?_)
  refine ⟨tSeq (tAsg (tTupRg (tRg1 (tCB (rLenQ K) (tCons (tOp (rIx K) (tVar 0) (tC (.int 0))) (tNil))))) (gName 1)) (tSeq (tAsg (tDispT (tVar 1) (tC (.bl true))) (gName 2)) (tSeq (tAsg (tLst (tCons (tVar 1) (tNil))) (gName 3)) (tSeq (tWhile (fun σ H Q => (tVar 3) σ H fun x H' => ∃ k, TruV K x H' k ∧ Q k H') (tSeq (tAsg (tBM0 K "list" rPop (tVar 3)) (gName 4)) (tSeq (tFor (iTup K (tVar 0)) (gName 5) (tSeq (tAsg (tCall (spD K 2 r_joined) [] E0 (tCons (tVar 4) (tCons (tVar 5) (tNil)))) (gName 6)) (tIfS (tB (tDNotIn (tVar 6) (tVar 2))) (tSeq (sDPut (tVar 2) (tVar 6) (tC (.bl true))) (tDrop (tBM K "list" rAppend (tVar 3) (tCons (tVar 6) tNil)))) (tNext)))) (tIfS (tTest (tOp (rI0 fun i j => V.bl (decide (j < i))) (tCB (rLenT) (tCons (tVar 2) (tNil))) (tC (.int (32))))) ((fun _ _ _ => False)) (tNext))))) (tRet (tCB (rTupQ K) (tCons (tCB (rSortedTD K) (tCons (tVar 2) (tNil))) (tNil))))))), pss_cons (ps_set (i := 1) sc.nd rfl (.inl rfl) (pe_tupRg rfl rfl z_tuple (prg_1 rfl z_range (pe_callB hLenQ rfl z_len (by decide +kernel) (pa_cons (pe_ix ix_seq (pv 0) (pe_int) (fun _ _ => rfl)) (pa_nil)))))) (pss_cons (ps_set (i := 2) sc.nd rfl (.inl rfl) (pe_dispT (hu1 hr) (pv 1) (pe_bl))) (pss_cons (ps_set (i := 3) sc.nd rfl (.inl rfl) (pe_lst (pa_cons (pv 1) (pa_nil)))) (pss_cons (ps_while PassesOwn.never (pt_truth (pv 3) (fun _ => rfl)) (pss_cons (ps_set (i := 4) sc.nd rfl (.inl rfl) (pe_bm0 PySem.F.plainAttrs_list PySem.F.slot_list_pop PySem.F.type_list_pop mt_pop (pv 3))) (pss_cons (ps_for PassesOwn.never rfl (pi_tup (pv 0)) (pg_name (i := 5) sc.nd rfl (.inl rfl)) (pss_cons (ps_set (i := 6) sc.nd rfl (.inl rfl) (pe_call F_joined.F (hr.mono (by decide)) rfl F_joined.g F_joined.k F_joined.b .nil pass0 (pa_cons (pv 4) (pa_cons (pv 5) (pa_nil))))) (pss_one (ps_if (pt_cmp (pc_dnotin (hu1 hr) (pv 6) (pv 2))) (pss_cons (ps_dput (hu1 hr) (pv 2) (pv 6) (pe_bl) rfl) (pss_one (ps_expr (pe_bm PySem.F.plainAttrs_list PySem.F.slot_list_append PySem.F.type_list_append mt_append (pv 3) (pa_cons (pv 6) pa_nil))))) (pss_nil))))) (pss_one (ps_if (pt_cmpR op_gt (pe_callB hLenT rfl z_len (by decide +kernel) (pa_cons (pv 2) (pa_nil))) (pe_glob rfl g_MAX_SIZE.choose_spec ⟨_, rfl⟩) (nomark _)) (pss_one (ps_no)) (pss_nil)))))) (pss_one (ps_ret (pe_callTy hTupQ rfl z_tuple (by decide +kernel) (pa_cons (pe_callB (cr_sortedTD rfl (hu64 hr)) rfl z_sorted (by decide +kernel) (pa_cons (pv 2) (pa_nil))) (pa_nil)))))))), ?_⟩
  exact body_end (m := mall_renamings) h (fun F0 H0 => sx_seq (sx_asg (ex_tupRg (ex_cb bLenQ (ab_cons ((ex_ix (bx_var 0) ((ex_int 0).b)).b) (ab_nil)))) (gx_name 1)) (sx_seq (sx_own 2 (ox_dispT (ex_var 1) (ex_bl true))) (sx_seq (sx_own 3 (ox_lst (ax_cons (ex_var 1) (ax_nil)))) (sx_seq (sx_while 400 (tx_tru (bx_var 3)) (sx_seq (sx_pop 3 4) (sx_seq (sx_for (wx_tup (ex_var 0)) (gx_name 5) (sx_seq (sx_asg (ex_call (ax_cons (ex_var 4) (ax_cons (ex_var 5) (ax_nil)))) (gx_name 6)) (sx_if (tx_b (ex_dnin (bx_var 6) (bx_var 2)).b) (sx_seq (sx_put 2 (ex_var 6) (ex_bl true)) (sx_append 3 (ex_var 6))) (sx_next)))) (sx_if (tx_test (ex_op op_rB ((ex_cb cb_lenT (ab_cons (bx_var 2) (ab_nil))).b) ((ex_int (32)).b)).b) (sx_stop) (sx_next))))) (sx_ret (ex_cb bTupQ (ab_cons ((ox_cb co_sortedTD (ab_cons (bx_var 2) (ab_nil))).b) (ab_nil))))))))
end
abbrev spower_of : Stmt := top 22
theorem scpower_of : FnScope ["products", "member", "number", "power", "_"] ["products", "member", "number"] (defScope spower_of) := ⟨rfl, rfl, rfl, by decide +kernel, rfl, by decide +kernel, by decide +kernel⟩
def mpower_of : M Fl := mSeq (mAsg (mC (.int 0)) (stN 3)) (mSeq (mFor (mRng (mCons (mAny 2) (mNil))) (stN 4) (mAsg (m2 fIx (m2 fIx (mAny 0) (mAny 3)) (mAny 1)) (stN 3))) (mRet (mFro 3)))
def r_power_of : List D → Option D := runD 5 mpower_of
section
variable {P : Program} {w : World} {K : PySem.W.Frag} {mg : Str → Option Value} {base : Heap}
theorem ok_power_of {f : Addr} {fd : FuncData} (F : Fun K "power_of" "power_of" spower_of f fd) (z_range : mg "range" = none) : FnOk P w K mg base CX0 1 f fd ["products", "member", "number"] (spD K 3 r_power_of) := by
  have sc := scpower_of
  refine F.ok sc (fun vs H Q E h => spD_len h) (fun cdv A outer s H vs Q E hr h => ?_)
  refine ⟨tSeq (tAsg (tC (.int 0)) (gName 3)) (tSeq (tFor (iRng1 (tCons (tVar 2) (tNil))) (gName 4) (tAsg (tOp (rIx K) (tOp (rIx K) (tVar 0) (tVar 3)) (tVar 1)) (gName 3))) (tRet (tVar 3))), pss_cons (ps_set (i := 3) sc.nd rfl (.inl rfl) (pe_int)) (pss_cons (ps_for PassesOwn.never rfl (pi_range1 rfl z_range (pa_cons (pv 2) (pa_nil))) (pg_name (i := 4) sc.nd rfl (.inl rfl)) (pss_one (ps_set (i := 3) sc.nd rfl (.inl rfl) (pe_ix ix_seq (pe_ix ix_seq (pv 0) (pv 3) (fun _ _ => rfl)) (pv 1) (fun _ _ => rfl))))) (pss_one (ps_ret (pv 3)))), ?_⟩
  exact body_end (m := mpower_of) h (fun F0 H0 => sx_seq (sx_asg (ex_int 0) (gx_name 3)) (sx_seq (sx_for (wx_range1 (ab_cons (bx_var 2) (ab_nil)) (mCons_len (mNil_len))) (gx_name 4) (sx_asg (ex_ix ((ex_ix (bx_var 0) (bx_var 3)).b) (bx_var 1)) (gx_name 3))) (sx_ret (ex_var 3))))
end
abbrev sorder_of : Stmt := top 23
theorem scorder_of : FnScope ["products", "member", "order", "power"] ["products", "member"] (defScope sorder_of) := ⟨rfl, rfl, rfl, by decide +kernel, rfl, by decide +kernel, by decide +kernel⟩
def morder_of : M Fl := mSeq (mAsg (mC (.int 1)) (stN 2)) (mSeq (mAsg (mFro 1) (stN 3)) (mSeq (mWhile 60 (mBool (m2 (fEq true) (mAny 3) (mC (.int 0)))) (mSeq (mAsg (m2 fIx (m2 fIx (mAny 0) (mAny 3)) (mAny 1)) (stN 3)) (mAug 2 (fI (fun _ _ => true) fun i j => i + j) (mC (.int 1))))) (mRet (mFro 2))))
def r_order_of : List D → Option D := runD 4 morder_of
section
variable {P : Program} {w : World} {K : PySem.W.Frag} {mg : Str → Option Value} {base : Heap}
theorem ok_order_of {f : Addr} {fd : FuncData} (F : Fun K "order_of" "order_of" sorder_of f fd)  : FnOk P w K mg base CX0 1 f fd ["products", "member"] (spD K 2 r_order_of) := by
  have sc := scorder_of
  refine F.ok sc (fun vs H Q E h => spD_len h) (fun cdv A outer s H vs Q E hr h => ?_)
  refine ⟨tSeq (tAsg (tC (.int 1)) (gName 2)) (tSeq (tAsg (tVar 1) (gName 3)) (tSeq (tWhile (tTest (tOp (rNeD K) (tVar 3) (tC (.int 0)))) (tSeq (tAsg (tOp (rIx K) (tOp (rIx K) (tVar 0) (tVar 3)) (tVar 1)) (gName 3)) (tAug 2 (tC (.int 1)) (ipI fun i j => i + j)))) (tRet (tVar 2)))), pss_cons (ps_set (i := 2) sc.nd rfl (.inl rfl) (pe_int)) (pss_cons (ps_set (i := 3) sc.nd rfl (.inl rfl) (pv 1)) (pss_cons (ps_while PassesOwn.never (pt_cmpR (op_neD (hu64 hr)) (pv 3) (pe_int) (nomark _)) (pss_cons (ps_set (i := 3) sc.nd rfl (.inl rfl) (pe_ix ix_seq (pe_ix ix_seq (pv 0) (pv 3) (fun _ _ => rfl)) (pv 1) (fun _ _ => rfl))) (pss_one (ps_aug sc.nd rfl (.inl rfl) (pe_int) ip_add)))) (pss_one (ps_ret (pv 2))))), ?_⟩
  exact body_end (m := morder_of) h (fun F0 H0 => sx_seq (sx_asg (ex_int 1) (gx_name 2)) (sx_seq (sx_asg (ex_var 1) (gx_name 3)) (sx_seq (sx_while 60 (tx_test (ex_op op_neB (bx_var 3) ((ex_int 0).b)).b) (sx_seq (sx_asg (ex_ix ((ex_ix (bx_var 0) (bx_var 3)).b) (bx_var 1)) (gx_name 3)) (sx_aug (i := 2) (r := ipI fun i j => i + j) (op_rI0 (g := fun i j => i + j)) (ex_int 1)))) (sx_ret (ex_var 2)))))
end
abbrev sclosed_members : Stmt := top 24
theorem scclosed_members : FnScope ["products", "makers", "found", "waiting", "known", "maker", "further"] ["products", "makers"] (defScope sclosed_members) := ⟨rfl, rfl, rfl, by decide +kernel, rfl, by decide +kernel, by decide +kernel⟩
def mclosed_members : M Fl := mSeq (mOwn 2 (mDisp ((mC (.int 0), mC (.bl true)) :: []))) (mSeq (mOwn 3 (mLst (mCons (mC (.int 0)) (mNil)))) (mSeq (mWhile 400 (mTru (mAny 3)) (mSeq (mPop 3 4) (mFor (mItT (mFro 1)) (stN 5) (mSeq (mAsg (m2 fIx (m2 fIx (mAny 0) (mAny 4)) (mAny 5)) (stN 6)) (mIf (mBool (m2 (fun e d => fHas true d e) (mAny 6) (mAny 2))) (mSeq (mPut 2 (mFro 6) (mC (.bl true))) (mAppend 3 (mFro 6))) (mNext)))))) (mRet (mB (f1 fun d => (lstD d).map D.tup) (mCons (mB (f1 fSortedKI) (mCons (mAny 2) (mNil))) (mNil))))))
def r_closed_members : List D → Option D := runD 7 mclosed_members
section
variable {P : Program} {w : World} {K : PySem.W.Frag} {mg : Str → Option Value} {base : Heap}
theorem ok_closed_members {f : Addr} {fd : FuncData} (F : Fun K "closed_members" "closed_members" sclosed_members f fd) (z_sorted : mg "sorted" = none) (z_tuple : mg "tuple" = none) : FnOk P w K mg base CX0 1 f fd ["products", "makers"] (spD K 2 r_closed_members) := by
  have sc := scclosed_members
  refine F.ok sc (fun vs H Q E h => spD_len h) (fun cdv A outer s H vs Q E hr h => ?_)
  refine ⟨tSeq (tAsg (tDisp ((tC (.int 0), tC (.bl true)) :: [])) (gName 2)) (tSeq (tAsg (tLst (tCons (tC (.int 0)) (tNil))) (gName 3)) (tSeq (tWhile (fun σ H Q => (tVar 3) σ H fun x H' => ∃ k, TruV K x H' k ∧ Q k H') (tSeq (tAsg (tBM0 K "list" rPop (tVar 3)) (gName 4)) (tFor (iTup K (tVar 1)) (gName 5) (tSeq (tAsg (tOp (rIx K) (tOp (rIx K) (tVar 0) (tVar 4)) (tVar 5)) (gName 6)) (tIfS (tB (tDNotIn (tVar 6) (tVar 2))) (tSeq (sDPut (tVar 2) (tVar 6) (tC (.bl true))) (tDrop (tBM K "list" rAppend (tVar 3) (tCons (tVar 6) tNil)))) (tNext)))))) (tRet (tCB (rTupQ K) (tCons (tCB (rSortKI) (tCons (tVar 2) (tNil))) (tNil)))))), pss_cons (ps_set (i := 2) sc.nd rfl (.inl rfl) (pe_disp (pps_cons (pe_int) (pe_bl) (pps_nil)) rfl rfl (by simp) (by decide))) (pss_cons (ps_set (i := 3) sc.nd rfl (.inl rfl) (pe_lst (pa_cons (pe_int) (pa_nil)))) (pss_cons (ps_while PassesOwn.never (pt_truth (pv 3) (fun _ => rfl)) (pss_cons (ps_set (i := 4) sc.nd rfl (.inl rfl) (pe_bm0 PySem.F.plainAttrs_list PySem.F.slot_list_pop PySem.F.type_list_pop mt_pop (pv 3))) (pss_one (ps_for PassesOwn.never rfl (pi_tup (pv 1)) (pg_name (i := 5) sc.nd rfl (.inl rfl)) (pss_cons (ps_set (i := 6) sc.nd rfl (.inl rfl) (pe_ix ix_seq (pe_ix ix_seq (pv 0) (pv 4) (fun _ _ => rfl)) (pv 5) (fun _ _ => rfl))) (pss_one (ps_if (pt_cmp (pc_dnotin (hu1 hr) (pv 6) (pv 2))) (pss_cons (ps_dput (hu1 hr) (pv 2) (pv 6) (pe_bl) rfl) (pss_one (ps_expr (pe_bm PySem.F.plainAttrs_list PySem.F.slot_list_append PySem.F.type_list_append mt_append (pv 3) (pa_cons (pv 6) pa_nil))))) (pss_nil)))))))) (pss_one (ps_ret (pe_callTy hTupQ rfl z_tuple (by decide +kernel) (pa_cons (pe_callB (hSortKI rfl) rfl z_sorted (by decide +kernel) (pa_cons (pv 2) (pa_nil))) (pa_nil))))))), ?_⟩
  exact body_end (m := mclosed_members) h (fun F0 H0 => sx_seq (sx_own 2 (ox_disp (.cons (ex_int 0) (ex_bl true) (.nil)))) (sx_seq (sx_own 3 (ox_lst (ax_cons (ex_int 0) (ax_nil)))) (sx_seq (sx_while 400 (tx_tru (bx_var 3)) (sx_seq (sx_pop 3 4) (sx_for (wx_tup (ex_var 1)) (gx_name 5) (sx_seq (sx_asg (ex_ix ((ex_ix (bx_var 0) (bx_var 4)).b) (bx_var 5)) (gx_name 6)) (sx_if (tx_b (ex_dnin (bx_var 6) (bx_var 2)).b) (sx_seq (sx_put 2 (ex_var 6) (ex_bl true)) (sx_append 3 (ex_var 6))) (sx_next)))))) (sx_ret (ex_cb bTupQ (ab_cons ((ox_cb bSortKI (ab_cons (bx_var 2) (ab_nil))).b) (ab_nil)))))))
end
abbrev sis_renaming : Stmt := top 19
theorem scis_renaming : FnScope ["value", "place"] ["value"] (defScope sis_renaming) := ⟨rfl, rfl, rfl, by decide +kernel, rfl, by decide +kernel, by decide +kernel⟩
def mis_renaming : M Fl := mSeq (mIf (mOr (mNot (mBool (mB (fIsG kTup (isTyD "tuple")) (mCons (mAny 0) (mCons (mC (.ty "tuple")) mNil))))) (mNot (mBool (mChain (fB fun i j => decide (i ≤ j)) (fB fun i j => decide (i ≤ j)) (mC (.int 1)) (mB (f1 fLen) (mCons (mAny 0) (mNil))) (mC (.int (32))))))) (mRet (mC (.bl false))) (mNext)) (mRet (mAndV (mB (f1 fAll) (mCons (mLc [1] (mItT (mFro 0)) (stN 1) (fun _ => some true) (mCall 3 r_is_within (mCons (mFro 1) (mCons (mC (.int 0)) (mCons (m2 (fI (fun _ _ => true) fun i j => i - j) (mB (f1 fLen) (mCons (mAny 0) (mNil))) (mC (.int 1))) (mNil)))))) (mNil))) (m2 (fEq false) (mF fLenSet (mFro 0)) (mB (f1 fLen) (mCons (mAny 0) (mNil))))))
def r_is_renaming : List D → Option D := runD 2 mis_renaming
section
variable {P : Program} {w : World} {K : PySem.W.Frag} {mg : Str → Option Value} {base : Heap}
theorem ok_is_renaming {f : Addr} {fd : FuncData} (F : Fun K "is_renaming" "is_renaming" sis_renaming f fd) (F_is_within : Own P w K mg base 3 "is_within" 3 r_is_within) (g_MAX_PLACES : ∃ t, mg "MAX_PLACES" = some (.int (32) t)) (z_all : mg "all" = none) (z_isinstance : mg "isinstance" = none) (z_len : mg "len" = none) (z_set : mg "set" = none) (z_tuple : mg "tuple" = none) : FnOk P w K mg base CX0 4 f fd ["value"] (spD K 1 r_is_renaming) := by
  have sc := scis_renaming
  refine F.ok sc (fun vs H Q E h => spD_len h) (fun cdv A outer s H vs Q E hr h => ?_)
  refine ⟨tSeq (tIfS (tOr (tNot (tB (tCB (rIsi K) (tCons (tVar 0) (tCons (tC (.ty "tuple")) tNil))))) (tNot (tTest (tChain (rI0 fun i j => V.bl (decide (i ≤ j))) (rI0 fun i j => V.bl (decide (i ≤ j))) (tC (.int 1)) (tCB (rLenQ K) (tCons (tVar 0) (tNil))) (tC (.int (32))))))) (tRet (tC (.bl false))) (tNext)) (tRet (tAndV (tCB (rAll K) (tCons (tLc (iTup K (tVar 0)) (gName 1) (tYes) (tCall (spD K 3 r_is_within) [] E0 (tCons (tVar 1) (tCons (tC (.int 0)) (tCons (tOp (rI0 fun i j => V.int (i - j)) (tCB (rLenQ K) (tCons (tVar 0) (tNil))) (tC (.int 1))) (tNil))))) [1]) (tNil))) (tOp (rEqD K) (tCB rLenS (tCons (tCB (rSetT K) (tCons (tVar 0) tNil)) tNil)) (tCB (rLenQ K) (tCons (tVar 0) (tNil)))))), pss_cons (ps_if (PW.pt (pw_or (pt_not (pt_val (pe_callB call_isi rfl z_isinstance (by decide +kernel) (pa_cons (pv 0) (pa_cons (pe_bltn rfl z_tuple (by decide +kernel) rfl) pa_nil))) (fun _ => rfl))) (pw_or1 (pt_not (pt_chain op_le op_le (pe_int) (pe_callB hLenQ rfl z_len (by decide +kernel) (pa_cons (pv 0) (pa_nil))) (pe_glob rfl g_MAX_PLACES.choose_spec ⟨_, rfl⟩)))))) (pss_one (ps_ret (pe_bl))) (pss_nil)) (pss_one (ps_ret (pe_and (pe_callB (cr_all rfl) rfl z_all (by decide +kernel) (pa_cons (pe_lc (own := [("place", 1)]) rfl sc.nd (pi_tup (pv 0)) (blkOk_by (by rfl)) (fun _ _ _ _ _ => pg_name (i := 1) sc.nd rfl (.inl rfl)) (fun _ _ _ _ _ => pts_nil) (fun _ _ _ _ _ => pe_call F_is_within.F (hr.mono (by decide)) rfl F_is_within.g F_is_within.k F_is_within.b .nil pass0 (pa_cons (pv 1) (pa_cons (pe_int) (pa_cons (pe_op op_sub (pe_callB hLenQ rfl z_len (by decide +kernel) (pa_cons (pv 0) (pa_nil))) (pe_int)) (pa_nil)))))) (pa_nil))) (pe_one (pe_cmpR (op_eqD (hu64 hr)) (pe_callB call_lenS rfl z_len (by decide +kernel) (pa_cons (pe_callTy (call_setT rfl) rfl z_set (by decide +kernel) (pa_cons (pv 0) pa_nil)) pa_nil)) (pe_callB hLenQ rfl z_len (by decide +kernel) (pa_cons (pv 0) (pa_nil))) (nomark _)))))), ?_⟩
  exact body_end (m := mis_renaming) h (fun F0 H0 => sx_seq (sx_if (tx_or (tx_not (tx_b ((ex_cb bIsTup (ab_cons (bx_var 0) (ab_cons ((ex_ty "tuple").b) ab_nil))).b))) (tx_not (tx_test (ex_chain (op_rB) (op_rB) ((ex_int 1).b) ((ex_cb bLenQ (ab_cons (bx_var 0) (ab_nil))).b) ((ex_int (32)).b)).b))) (sx_ret (ex_bl false)) (sx_next)) (sx_ret (ex_and ((ex_cb cb_all (ab_cons ((ox_lc (wx_tup (ex_var 0)) (gw_name 1) (tx_yes) (ex_call (ax_cons (ex_var 1) (ax_cons (ex_int 0) (ax_cons (ex_op (op_rI0) ((ex_cb bLenQ (ab_cons (bx_var 0) (ab_nil))).b) ((ex_int 1).b)) (ax_nil)))))).b) (ab_nil))).b) (ex_op op_eqB ((ex_lenSet (ex_var 0)).b) ((ex_cb bLenQ (ab_cons (bx_var 0) (ab_nil))).b)))))
end
abbrev sare_moves : Stmt := top 18
theorem scare_moves : FnScope ["value", "move"] ["value"] (defScope sare_moves) := ⟨rfl, rfl, rfl, by decide +kernel, rfl, by decide +kernel, by decide +kernel⟩
def mare_moves : M Fl := mSeq (mIf (mOr (mNot (mBool (mB (fIsG kTup (isTyD "tuple")) (mCons (mAny 0) (mCons (mC (.ty "tuple")) mNil))))) (mNot (mBool (mChain (fB fun i j => decide (i ≤ j)) (fB fun i j => decide (i ≤ j)) (mC (.int 1)) (mB (f1 fLen) (mCons (mAny 0) (mNil))) (mC (.int (4))))))) (mRet (mC (.bl false))) (mNext)) (mRet (mAndV (mB (f1 fAll) (mCons (mLc [1] (mItT (mFro 0)) (stN 1) (fun _ => some true) (mCall 1 r_is_renaming (mCons (mFro 1) (mNil)))) (mNil))) (mB (f1 fAll) (mCons (mLc [1] (mItT (mFro 0)) (stN 1) (fun _ => some true) (m2 (fEq false) (mB (f1 fLen) (mCons (mAny 1) (mNil))) (mB (f1 fLen) (mCons (m2 fIx (mAny 0) (mC (.int 0))) (mNil))))) (mNil)))))
def r_are_moves : List D → Option D := runD 2 mare_moves
section
variable {P : Program} {w : World} {K : PySem.W.Frag} {mg : Str → Option Value} {base : Heap}
theorem ok_are_moves {f : Addr} {fd : FuncData} (F : Fun K "are_moves" "are_moves" sare_moves f fd) (F_is_renaming : Own P w K mg base 4 "is_renaming" 1 r_is_renaming) (g_MOST_MOVES : ∃ t, mg "MOST_MOVES" = some (.int (4) t)) (z_all : mg "all" = none) (z_isinstance : mg "isinstance" = none) (z_len : mg "len" = none) (z_tuple : mg "tuple" = none) : FnOk P w K mg base CX0 5 f fd ["value"] (spD K 1 r_are_moves) := by
  have sc := scare_moves
  refine F.ok sc (fun vs H Q E h => spD_len h) (fun cdv A outer s H vs Q E hr h => ?_)
  refine ⟨tSeq (tIfS (tOr (tNot (tB (tCB (rIsi K) (tCons (tVar 0) (tCons (tC (.ty "tuple")) tNil))))) (tNot (tTest (tChain (rI0 fun i j => V.bl (decide (i ≤ j))) (rI0 fun i j => V.bl (decide (i ≤ j))) (tC (.int 1)) (tCB (rLenQ K) (tCons (tVar 0) (tNil))) (tC (.int (4))))))) (tRet (tC (.bl false))) (tNext)) (tRet (tAndV (tCB (rAll K) (tCons (tLc (iTup K (tVar 0)) (gName 1) (tYes) (tCall (spD K 1 r_is_renaming) [] E0 (tCons (tVar 1) (tNil))) [1]) (tNil))) (tCB (rAll K) (tCons (tLc (iTup K (tVar 0)) (gName 1) (tYes) (tOp (rEqD K) (tCB (rLenQ K) (tCons (tVar 1) (tNil))) (tCB (rLenQ K) (tCons (tOp (rIx K) (tVar 0) (tC (.int 0))) (tNil)))) [1]) (tNil))))), pss_cons (ps_if (PW.pt (pw_or (pt_not (pt_val (pe_callB call_isi rfl z_isinstance (by decide +kernel) (pa_cons (pv 0) (pa_cons (pe_bltn rfl z_tuple (by decide +kernel) rfl) pa_nil))) (fun _ => rfl))) (pw_or1 (pt_not (pt_chain op_le op_le (pe_int) (pe_callB hLenQ rfl z_len (by decide +kernel) (pa_cons (pv 0) (pa_nil))) (pe_glob rfl g_MOST_MOVES.choose_spec ⟨_, rfl⟩)))))) (pss_one (ps_ret (pe_bl))) (pss_nil)) (pss_one (ps_ret (pe_and (pe_callB (cr_all rfl) rfl z_all (by decide +kernel) (pa_cons (pe_lc (own := [("move", 1)]) rfl sc.nd (pi_tup (pv 0)) (blkOk_by (by rfl)) (fun _ _ _ _ _ => pg_name (i := 1) sc.nd rfl (.inl rfl)) (fun _ _ _ _ _ => pts_nil) (fun _ _ _ _ _ => pe_call F_is_renaming.F (hr.mono (by decide)) rfl F_is_renaming.g F_is_renaming.k F_is_renaming.b .nil pass0 (pa_cons (pv 1) (pa_nil)))) (pa_nil))) (pe_one (pe_callB (cr_all rfl) rfl z_all (by decide +kernel) (pa_cons (pe_lc (own := [("move", 1)]) rfl sc.nd (pi_tup (pv 0)) (blkOk_by (by rfl)) (fun _ _ _ _ _ => pg_name (i := 1) sc.nd rfl (.inl rfl)) (fun _ _ _ _ _ => pts_nil) (fun _ _ _ _ _ => pe_cmpR (op_eqD (hu64 hr)) (pe_callB hLenQ rfl z_len (by decide +kernel) (pa_cons (pv 1) (pa_nil))) (pe_callB hLenQ rfl z_len (by decide +kernel) (pa_cons (pe_ix ix_seq (pv 0) (pe_int) (fun _ _ => rfl)) (pa_nil))) (nomark _))) (pa_nil))))))), ?_⟩
  exact body_end (m := mare_moves) h (fun F0 H0 => sx_seq (sx_if (tx_or (tx_not (tx_b ((ex_cb bIsTup (ab_cons (bx_var 0) (ab_cons ((ex_ty "tuple").b) ab_nil))).b))) (tx_not (tx_test (ex_chain (op_rB) (op_rB) ((ex_int 1).b) ((ex_cb bLenQ (ab_cons (bx_var 0) (ab_nil))).b) ((ex_int (4)).b)).b))) (sx_ret (ex_bl false)) (sx_next)) (sx_ret (ex_and ((ex_cb cb_all (ab_cons ((ox_lc (wx_tup (ex_var 0)) (gw_name 1) (tx_yes) (ex_call (ax_cons (ex_var 1) (ax_nil)))).b) (ab_nil))).b) (ex_cb cb_all (ab_cons ((ox_lc (wx_tup (ex_var 0)) (gw_name 1) (tx_yes) (ex_op op_eqB ((ex_cb bLenQ (ab_cons (bx_var 1) (ab_nil))).b) ((ex_cb bLenQ (ab_cons ((ex_ix (bx_var 0) ((ex_int 0).b)).b) (ab_nil))).b))).b) (ab_nil))))))
end
abbrev sp_size : Stmt := inClass (top 17) 2
theorem scp_size : FnScope ["self"] ["self"] (defScope sp_size) := ⟨rfl, rfl, rfl, by decide +kernel, rfl, by decide +kernel, by decide +kernel⟩
def mp_size : M Fl := mRet (mB (f1 fLen) (mCons (mFld aG "_moves" (mAny 0)) (mNil)))
def r_p_size : List D → Option D := runD 1 mp_size
section
variable {P : Program} {w : World} {K : PySem.W.Frag} {mg : Str → Option Value} {base : Heap}
theorem ok_p_size {f : Addr} {fd : FuncData} (F : Fun K "size" "Group.size" sp_size f fd) (T : Txt K) (z_len : mg "len" = none) : FnOk P w K mg base CX0 1 f fd ["self"] (spD K 1 r_p_size) := by
  have sc := scp_size
  refine F.ok sc (fun vs H Q E h => spD_len h) (fun cdv A outer s H vs Q E hr h => ?_)
  refine ⟨tRet (tCB (rLenQ K) (tCons (tFld K (tVar 0) "_moves") (tNil))), pss_one (ps_ret (pe_callB hLenQ rfl z_len (by decide +kernel) (pa_cons (pe_fld (pv 0) (by rfl)) (pa_nil)))), ?_⟩
  exact body_end (m := mp_size) h (fun F0 H0 => sx_ret (ex_cb bLenQ (ab_cons ((ex_fld T.cl T.n_moves (bx_var 0)).b) (ab_nil))))
end
abbrev sp_moves : Stmt := inClass (top 17) 3
theorem scp_moves : FnScope ["self"] ["self"] (defScope sp_moves) := ⟨rfl, rfl, rfl, by decide +kernel, rfl, by decide +kernel, by decide +kernel⟩
def mp_moves : M Fl := mRet (mFld aG "_moves" (mAny 0))
def r_p_moves : List D → Option D := runD 1 mp_moves
section
variable {P : Program} {w : World} {K : PySem.W.Frag} {mg : Str → Option Value} {base : Heap}
theorem ok_p_moves {f : Addr} {fd : FuncData} (F : Fun K "moves" "Group.moves" sp_moves f fd) (T : Txt K) : FnOk P w K mg base CX0 1 f fd ["self"] (spD K 1 r_p_moves) := by
  have sc := scp_moves
  refine F.ok sc (fun vs H Q E h => spD_len h) (fun cdv A outer s H vs Q E hr h => ?_)
  refine ⟨tRet (tFld K (tVar 0) "_moves"), pss_one (ps_ret (pe_fld (pv 0) (by rfl))), ?_⟩
  exact body_end (m := mp_moves) h (fun F0 H0 => sx_ret (ex_fld T.cl T.n_moves (bx_var 0)))
end
abbrev sp_all_products : Stmt := inClass (top 17) 4
theorem scp_all_products : FnScope ["self"] ["self"] (defScope sp_all_products) := ⟨rfl, rfl, rfl, by decide +kernel, rfl, by decide +kernel, by decide +kernel⟩
def mp_all_products : M Fl := mRet (mFld aG "_products" (mAny 0))
def r_p_all_products : List D → Option D := runD 1 mp_all_products
section
variable {P : Program} {w : World} {K : PySem.W.Frag} {mg : Str → Option Value} {base : Heap}
theorem ok_p_all_products {f : Addr} {fd : FuncData} (F : Fun K "all_products" "Group.all_products" sp_all_products f fd) (T : Txt K) : FnOk P w K mg base CX0 1 f fd ["self"] (spD K 1 r_p_all_products) := by
  have sc := scp_all_products
  refine F.ok sc (fun vs H Q E h => spD_len h) (fun cdv A outer s H vs Q E hr h => ?_)
  refine ⟨tRet (tFld K (tVar 0) "_products"), pss_one (ps_ret (pe_fld (pv 0) (by rfl))), ?_⟩
  exact body_end (m := mp_all_products) h (fun F0 H0 => sx_ret (ex_fld T.cl T.n_products (bx_var 0)))
end
abbrev sp_all_inverses : Stmt := inClass (top 17) 5
theorem scp_all_inverses : FnScope ["self"] ["self"] (defScope sp_all_inverses) := ⟨rfl, rfl, rfl, by decide +kernel, rfl, by decide +kernel, by decide +kernel⟩
def mp_all_inverses : M Fl := mRet (mFld aG "_inverses" (mAny 0))
def r_p_all_inverses : List D → Option D := runD 1 mp_all_inverses
section
variable {P : Program} {w : World} {K : PySem.W.Frag} {mg : Str → Option Value} {base : Heap}
theorem ok_p_all_inverses {f : Addr} {fd : FuncData} (F : Fun K "all_inverses" "Group.all_inverses" sp_all_inverses f fd) (T : Txt K) : FnOk P w K mg base CX0 1 f fd ["self"] (spD K 1 r_p_all_inverses) := by
  have sc := scp_all_inverses
  refine F.ok sc (fun vs H Q E h => spD_len h) (fun cdv A outer s H vs Q E hr h => ?_)
  refine ⟨tRet (tFld K (tVar 0) "_inverses"), pss_one (ps_ret (pe_fld (pv 0) (by rfl))), ?_⟩
  exact body_end (m := mp_all_inverses) h (fun F0 H0 => sx_ret (ex_fld T.cl T.n_inverses (bx_var 0)))
end
abbrev sis_member : Stmt := top 25
theorem scis_member : FnScope ["group", "value"] ["group", "value"] (defScope sis_member) := ⟨rfl, rfl, rfl, by decide +kernel, rfl, by decide +kernel, by decide +kernel⟩
def mis_member : M Fl := mRet (mCall 3 r_is_within (mCons (mFro 1) (mCons (mC (.int 0)) (mCons (m2 (fI (fun _ _ => true) fun i j => i - j) (mProp aG r_p_size (mFro 0)) (mC (.int 1))) (mNil)))))
def r_is_member : List D → Option D := runD 2 mis_member
section
variable {P : Program} {w : World} {K : PySem.W.Frag} {mg : Str → Option Value} {base : Heap}
theorem ok_is_member {f : Addr} {fd : FuncData} (F : Fun K "is_member" "is_member" sis_member f fd) (F_is_within : Own P w K mg base 3 "is_within" 3 r_is_within) (Pr_size : OwnProp P w K mg base 1 aG "size" r_p_size) : FnOk P w K mg base CX0 4 f fd ["group", "value"] (spD K 2 r_is_member) := by
  have sc := scis_member
  refine F.ok sc (fun vs H Q E h => spD_len h) (fun cdv A outer s H vs Q E hr h => ?_)
  refine ⟨tRet (tCall (spD K 3 r_is_within) [] E0 (tCons (tVar 1) (tCons (tC (.int 0)) (tCons (tOp (rI0 fun i j => V.int (i - j)) (tProp aG (spD K 1 r_p_size) [] E0 (tVar 0)) (tC (.int 1))) (tNil))))), pss_one (ps_ret (pe_call F_is_within.F (hr.mono (by decide)) rfl F_is_within.g F_is_within.k F_is_within.b .nil pass0 (pa_cons (pv 1) (pa_cons (pe_int) (pa_cons (pe_op op_sub (pe_prop (pv 0) Pr_size.c Pr_size.h Pr_size.F (hr.mono (by decide)) Pr_size.b .nil pass0 (by rfl)) (pe_int)) (pa_nil)))))), ?_⟩
  exact body_end (m := mis_member) h (fun F0 H0 => sx_ret (ex_call (ax_cons (ex_var 1) (ax_cons (ex_int 0) (ax_cons (ex_op (op_rI0) ((ex_prop (ex_var 0)).b) ((ex_int 1).b)) (ax_nil))))))
end
abbrev sneed_group : Stmt := top 26
theorem scneed_group : FnScope ["group"] ["group"] (defScope sneed_group) := ⟨rfl, rfl, rfl, by decide +kernel, rfl, by decide +kernel, by decide +kernel⟩
def mneed_group : M Fl := mIf (mNot (mBool (mB (fIsi (isInsD aG) (isCstD aG) true) (mCons (mAny 0) (mCons (mC (.cst aG)) mNil))))) (mStop) (mNext)
def r_need_group : List D → Option D := runD 1 mneed_group
section
variable {P : Program} {w : World} {K : PySem.W.Frag} {mg : Str → Option Value} {base : Heap}
theorem ok_need_group {f : Addr} {fd : FuncData} (F : Fun K "need_group" "need_group" sneed_group f fd) (T : Txt K) (g_Group : mg "Group" = some (.ref aG)) (z_isinstance : mg "isinstance" = none) : FnOk P w K mg base CX0 1 f fd ["group"] (spD K 1 r_need_group) := by
  have sc := scneed_group
  refine F.ok sc (fun vs H Q E h => spD_len h) (fun cdv A outer s H vs Q E hr h => ?_)
  refine ⟨tIfS (tNot (tB (tCB (rIsi K) (tCons (tVar 0) (tCons (tC (.ref aG)) tNil))))) ((fun _ _ _ => False)) (tNext), pss_one (ps_if (pt_not (pt_val (pe_callB call_isi rfl z_isinstance (by decide +kernel) (pa_cons (pv 0) (pa_cons (pe_glob rfl g_Group rfl) pa_nil))) (fun _ => rfl))) (pss_one (ps_no)) (pss_nil)), ?_⟩
  exact body_end (m := mneed_group) h (fun F0 H0 => sx_if (tx_not (tx_b ((ex_cb (cb_isi (kd := isInsD aG) (cd := isCstD aG) (tyx_ins T.cl T.h2 T.h3 T.h4 T.h5) cls_own T.kit) (ab_cons (bx_var 0) (ab_cons ((ex_c (fun _ => .cst aG)).b) ab_nil))).b))) (sx_stop) (sx_next))
end
abbrev sis_group_part : Stmt := top 29
theorem scis_group_part : FnScope ["group", "value", "member"] ["group", "value"] (defScope sis_group_part) := ⟨rfl, rfl, rfl, by decide +kernel, rfl, by decide +kernel, by decide +kernel⟩
def mis_group_part : M Fl := mSeq ((fun δ => ((mCall 1 r_need_group (mCons (mFro 0) (mNil))) δ).map fun _ => .nx δ)) (mSeq (mIf (mOr (mNot (mBool (mB (fIsG kTup (isTyD "tuple")) (mCons (mAny 1) (mCons (mC (.ty "tuple")) mNil))))) (mNot (mBool (mB (f1 fAll) (mCons (mLc [2] (mItT (mFro 1)) (stN 2) (fun _ => some true) (mCall 2 r_is_member (mCons (mFro 0) (mCons (mFro 2) (mNil))))) (mNil)))))) (mRet (mC (.bl false))) (mNext)) (mRet (mAndV (m2 (fInF false) (mC (.int 0)) (mAny 1)) (m2 (fEq false) (mAny 1) (mCall 2 r_closed_members (mCons (mProp aG r_p_all_products (mFro 0)) (mCons (mFro 1) (mNil))))))))
def r_is_group_part : List D → Option D := runD 3 mis_group_part
section
variable {P : Program} {w : World} {K : PySem.W.Frag} {mg : Str → Option Value} {base : Heap}
theorem ok_is_group_part {f : Addr} {fd : FuncData} (F : Fun K "is_group_part" "is_group_part" sis_group_part f fd) (F_closed_members : Own P w K mg base 1 "closed_members" 2 r_closed_members) (F_is_member : Own P w K mg base 4 "is_member" 2 r_is_member) (F_need_group : Own P w K mg base 1 "need_group" 1 r_need_group) (Pr_all_products : OwnProp P w K mg base 1 aG "all_products" r_p_all_products) (z_all : mg "all" = none) (z_isinstance : mg "isinstance" = none) (z_tuple : mg "tuple" = none) : FnOk P w K mg base CX0 5 f fd ["group", "value"] (spD K 2 r_is_group_part) := by
  have sc := scis_group_part
  refine F.ok sc (fun vs H Q E h => spD_len h) (fun cdv A outer s H vs Q E hr h => ?_)
  refine ⟨tSeq (tDrop (tCall (spD K 1 r_need_group) [] E0 (tCons (tVar 0) (tNil)))) (tSeq (tIfS (tOr (tNot (tB (tCB (rIsi K) (tCons (tVar 1) (tCons (tC (.ty "tuple")) tNil))))) (tNot (tB (tCB (rAll K) (tCons (tLc (iTup K (tVar 1)) (gName 2) (tYes) (tCall (spD K 2 r_is_member) [] E0 (tCons (tVar 0) (tCons (tVar 2) (tNil)))) [2]) (tNil)))))) (tRet (tC (.bl false))) (tNext)) (tRet (tAndV (tOp (rIn K false) (tC (.int 0)) (tVar 1)) (tOp (rEqD K) (tVar 1) (tCall (spD K 2 r_closed_members) [] E0 (tCons (tProp aG (spD K 1 r_p_all_products) [] E0 (tVar 0)) (tCons (tVar 1) (tNil)))))))), pss_cons (ps_expr (pe_call F_need_group.F (hr.mono (by decide)) rfl F_need_group.g F_need_group.k F_need_group.b .nil pass0 (pa_cons (pv 0) (pa_nil)))) (pss_cons (ps_if (PW.pt (pw_or (pt_not (pt_val (pe_callB call_isi rfl z_isinstance (by decide +kernel) (pa_cons (pv 1) (pa_cons (pe_bltn rfl z_tuple (by decide +kernel) rfl) pa_nil))) (fun _ => rfl))) (pw_or1 (pt_not (pt_val (pe_callB (cr_all rfl) rfl z_all (by decide +kernel) (pa_cons (pe_lc (own := [("member", 2)]) rfl sc.nd (pi_tup (pv 1)) (blkOk_by (by rfl)) (fun _ _ _ _ _ => pg_name (i := 2) sc.nd rfl (.inl rfl)) (fun _ _ _ _ _ => pts_nil) (fun _ _ _ _ _ => pe_call F_is_member.F (hr.mono (by decide)) rfl F_is_member.g F_is_member.k F_is_member.b .nil pass0 (pa_cons (pv 0) (pa_cons (pv 2) (pa_nil))))) (pa_nil))) (fun _ => rfl)))))) (pss_one (ps_ret (pe_bl))) (pss_nil)) (pss_one (ps_ret (pe_and (pe_cmpR op_in_seq (pe_int) (pv 1) (by rfl)) (pe_one (pe_cmpR (op_eqD (hu64 hr)) (pv 1) (pe_call F_closed_members.F (hr.mono (by decide)) rfl F_closed_members.g F_closed_members.k F_closed_members.b .nil pass0 (pa_cons (pe_prop (pv 0) Pr_all_products.c Pr_all_products.h Pr_all_products.F (hr.mono (by decide)) Pr_all_products.b .nil pass0 (by rfl)) (pa_cons (pv 1) (pa_nil)))) (nomark _))))))), ?_⟩
  exact body_end (m := mis_group_part) h (fun F0 H0 => sx_seq (sx_expr (ex_call (ax_cons (ex_var 0) (ax_nil))).b) (sx_seq (sx_if (tx_or (tx_not (tx_b ((ex_cb bIsTup (ab_cons (bx_var 1) (ab_cons ((ex_ty "tuple").b) ab_nil))).b))) (tx_not (tx_b ((ex_cb cb_all (ab_cons ((ox_lc (wx_tup (ex_var 1)) (gw_name 2) (tx_yes) (ex_call (ax_cons (ex_var 0) (ax_cons (ex_var 2) (ax_nil))))).b) (ab_nil))).b)))) (sx_ret (ex_bl false)) (sx_next)) (sx_ret (ex_and ((ex_op op_inF ((ex_int 0).b) (bx_var 1)).b) (ex_op op_eqB (bx_var 1) ((ex_call (ax_cons (ex_prop (ex_var 0)) (ax_cons (ex_var 1) (ax_nil)))).b))))))
end
abbrev sneed_part : Stmt := top 28
theorem scneed_part : FnScope ["group", "part"] ["group", "part"] (defScope sneed_part) := ⟨rfl, rfl, rfl, by decide +kernel, rfl, by decide +kernel, by decide +kernel⟩
def mneed_part : M Fl := mIf (mNot (mBool (mCall 2 r_is_group_part (mCons (mFro 0) (mCons (mFro 1) (mNil)))))) (mStop) (mNext)
def r_need_part : List D → Option D := runD 2 mneed_part
section
variable {P : Program} {w : World} {K : PySem.W.Frag} {mg : Str → Option Value} {base : Heap}
theorem ok_need_part {f : Addr} {fd : FuncData} (F : Fun K "need_part" "need_part" sneed_part f fd) (F_is_group_part : Own P w K mg base 5 "is_group_part" 2 r_is_group_part) : FnOk P w K mg base CX0 6 f fd ["group", "part"] (spD K 2 r_need_part) := by
  have sc := scneed_part
  refine F.ok sc (fun vs H Q E h => spD_len h) (fun cdv A outer s H vs Q E hr h => ?_)
  refine ⟨tIfS (tNot (tB (tCall (spD K 2 r_is_group_part) [] E0 (tCons (tVar 0) (tCons (tVar 1) (tNil)))))) ((fun _ _ _ => False)) (tNext), pss_one (ps_if (pt_not (pt_val (pe_call F_is_group_part.F (hr.mono (by decide)) rfl F_is_group_part.g F_is_group_part.k F_is_group_part.b .nil pass0 (pa_cons (pv 0) (pa_cons (pv 1) (pa_nil)))) (fun _ => rfl))) (pss_one (ps_no)) (pss_nil)), ?_⟩
  exact body_end (m := mneed_part) h (fun F0 H0 => sx_if (tx_not (tx_b ((ex_call (ax_cons (ex_var 0) (ax_cons (ex_var 1) (ax_nil)))).b))) (sx_stop) (sx_next))
end
abbrev smoved_members : Stmt := top 31
theorem scmoved_members : FnScope ["group", "part", "member", "products", "back", "inner"] ["group", "part", "member"] (defScope smoved_members) := ⟨rfl, rfl, rfl, by decide +kernel, rfl, by decide +kernel, by decide +kernel⟩
def mmoved_members : M Fl := mSeq (mAsg (mTup (mCons (mProp aG r_p_all_products (mFro 0)) (mCons (m2 fIx (mProp aG r_p_all_inverses (mFro 0)) (mAny 2)) (mNil)))) (stTup 2 (stCons (stN 3) (stCons (stN 4) (stNil))))) (mRet (mB (f1 fun d => (lstD d).map D.tup) (mCons (mB (f1 fSorted) (mCons (mLc [5] (mItT (mFro 1)) (stN 5) (fun _ => some true) (m2 fIx (m2 fIx (mAny 3) (m2 fIx (m2 fIx (mAny 3) (mAny 2)) (mAny 5))) (mAny 4))) (mNil))) (mNil))))
def r_moved_members : List D → Option D := runD 6 mmoved_members
section
variable {P : Program} {w : World} {K : PySem.W.Frag} {mg : Str → Option Value} {base : Heap}
theorem ok_moved_members {f : Addr} {fd : FuncData} (F : Fun K "moved_members" "moved_members" smoved_members f fd) (Pr_all_inverses : OwnProp P w K mg base 1 aG "all_inverses" r_p_all_inverses) (Pr_all_products : OwnProp P w K mg base 1 aG "all_products" r_p_all_products) (z_sorted : mg "sorted" = none) (z_tuple : mg "tuple" = none) : FnOk P w K mg base CX0 3 f fd ["group", "part", "member"] (spD K 3 r_moved_members) := by
  have sc := scmoved_members
  refine F.ok sc (fun vs H Q E h => spD_len h) (fun cdv A outer s H vs Q E hr h => ?_)
  refine ⟨tSeq (tAsg (tTup (tCons (tProp aG (spD K 1 r_p_all_products) [] E0 (tVar 0)) (tCons (tOp (rIx K) (tProp aG (spD K 1 r_p_all_inverses) [] E0 (tVar 0)) (tVar 2)) (tNil)))) (gTup K 2 (gCons (gName 3) (gCons (gName 4) (gNil))))) (tRet (tCB (rTupQ K) (tCons (tCB (rSortedI K) (tCons (tLc (iTup K (tVar 1)) (gName 5) (tYes) (tOp (rIx K) (tOp (rIx K) (tVar 3) (tOp (rIx K) (tOp (rIx K) (tVar 3) (tVar 2)) (tVar 5))) (tVar 4)) [5]) (tNil))) (tNil)))), pss_cons (ps_asg (pe_tup (pa_cons (pe_prop (pv 0) Pr_all_products.c Pr_all_products.h Pr_all_products.F (hr.mono (by decide)) Pr_all_products.b .nil pass0 (by rfl)) (pa_cons (pe_ix ix_seq (pe_prop (pv 0) Pr_all_inverses.c Pr_all_inverses.h Pr_all_inverses.F (hr.mono (by decide)) Pr_all_inverses.b .nil pass0 (by rfl)) (pv 2) (fun _ _ => rfl)) (pa_nil)))) (pg_tup rfl (pgs_cons (pg_name (i := 3) sc.nd rfl (.inr rfl)) (pgs_cons (pg_name (i := 4) sc.nd rfl (.inr rfl)) (pgs_nil))))) (pss_one (ps_ret (pe_callTy hTupQ rfl z_tuple (by decide +kernel) (pa_cons (pe_callB cr_sortedI rfl z_sorted (by decide +kernel) (pa_cons (pe_lc (own := [("inner", 5)]) rfl sc.nd (pi_tup (pv 1)) (blkOk_by (by rfl)) (fun _ _ _ _ _ => pg_name (i := 5) sc.nd rfl (.inl rfl)) (fun _ _ _ _ _ => pts_nil) (fun _ _ _ _ _ => pe_ix ix_seq (pe_ix ix_seq (pv 3) (pe_ix ix_seq (pe_ix ix_seq (pv 3) (pv 2) (fun _ _ => rfl)) (pv 5) (fun _ _ => rfl)) (fun _ _ => rfl)) (pv 4) (fun _ _ => rfl))) (pa_nil))) (pa_nil))))), ?_⟩
  exact body_end (m := mmoved_members) h (fun F0 H0 => sx_seq (sx_asg (ex_tup (ax_cons (ex_prop (ex_var 0)) (ax_cons (ex_ix ((ex_prop (ex_var 0)).b) (bx_var 2)) (ax_nil)))) (gx_tup (gsx_cons (gx_name 3) (gsx_cons (gx_name 4) (gsx_nil))))) (sx_ret (ex_cb bTupQ (ab_cons ((ox_cb co_sorted (ab_cons ((ox_lc (wx_tup (ex_var 1)) (gw_name 5) (tx_yes) (ex_ix ((ex_ix (bx_var 3) ((ex_ix ((ex_ix (bx_var 3) (bx_var 2)).b) (bx_var 5)).b)).b) (bx_var 4))).b) (ab_nil))).b) (ab_nil)))))
end
abbrev sneed_prime : Stmt := top 32
theorem scneed_prime : FnScope ["prime"] ["prime"] (defScope sneed_prime) := ⟨rfl, rfl, rfl, by decide +kernel, rfl, by decide +kernel, by decide +kernel⟩
def mneed_prime : M Fl := mIf (mOr (mNot (mBool (mCall 1 r_is_integer (mCons (mFro 0) (mNil))))) (mBool (m2 (fInF true) (mAny 0) (mC (ktupD [2, 3, 5, 7, 11, 13, 17, 19, 23, 29, 31]))))) (mStop) (mNext)
def r_need_prime : List D → Option D := runD 1 mneed_prime
section
variable {P : Program} {w : World} {K : PySem.W.Frag} {mg : Str → Option Value} {base : Heap}
theorem ok_need_prime {f : Addr} {fd : FuncData} (F : Fun K "need_prime" "need_prime" sneed_prime f fd) (F_is_integer : Own P w K mg base 2 "is_integer" 1 r_is_integer) (g_PRIMES : mg "PRIMES" = some (.ref aPR)) (k_PRIMES : KTup K aPR [2, 3, 5, 7, 11, 13, 17, 19, 23, 29, 31]) : FnOk P w K mg base CX0 3 f fd ["prime"] (spD K 1 r_need_prime) := by
  have sc := scneed_prime
  refine F.ok sc (fun vs H Q E h => spD_len h) (fun cdv A outer s H vs Q E hr h => ?_)
  refine ⟨tIfS (tOr (tNot (tB (tCall (spD K 1 r_is_integer) [] E0 (tCons (tVar 0) (tNil))))) (tTest (tOp (rIn K true) (tVar 0) (tC (.ref aPR))))) ((fun _ _ _ => False)) (tNext), pss_one (ps_if (PW.pt (pw_or (pt_not (pt_val (pe_call F_is_integer.F (hr.mono (by decide)) rfl F_is_integer.g F_is_integer.k F_is_integer.b .nil pass0 (pa_cons (pv 0) (pa_nil))) (fun _ => rfl))) (pw_or1 (pt_cmpR op_notIn_seq (pv 0) (pe_glob rfl g_PRIMES rfl) (by rfl))))) (pss_one (ps_no)) (pss_nil)), ?_⟩
  exact body_end (m := mneed_prime) h (fun F0 H0 => sx_if (tx_or (tx_not (tx_b ((ex_call (ax_cons (ex_var 0) (ax_nil))).b))) (tx_test (ex_op op_inF (bx_var 0) ((ex_c (ktup_rp k_PRIMES)).b)).b)) (sx_stop) (sx_next))
end
abbrev sgreater_part : Stmt := top 34
theorem scgreater_part : FnScope ["group", "part", "prime", "products", "member", "makers"] ["group", "part", "prime"] (defScope sgreater_part) := ⟨rfl, rfl, rfl, by decide +kernel, rfl, by decide +kernel, by decide +kernel⟩
def mgreater_part : M Fl := mSeq (mAsg (mProp aG r_p_all_products (mFro 0)) (stN 3)) (mSeq (mOwn 5 (mLc [4] (mRng (mCons (mProp aG r_p_size (mFro 0)) (mNil))) (stN 4) (mAnd (mBool (m2 (fInF true) (mAny 4) (mAny 1))) (mAnd (mBool (m2 (fInF false) (mCall 3 r_power_of (mCons (mFro 3) (mCons (mFro 4) (mCons (mFro 2) (mNil))))) (mAny 1))) (mBool (m2 (fEq false) (mCall 3 r_moved_members (mCons (mFro 0) (mCons (mFro 1) (mCons (mFro 4) (mNil))))) (mAny 1))))) (mFro 4))) (mRet (mCall 2 r_closed_members (mCons (mFro 3) (mCons (m2 fCat (mFro 1) (mTup (mCons (m2 fIx (mAny 5) (mC (.int 0))) (mNil)))) (mNil))))))
def r_greater_part : List D → Option D := runD 6 mgreater_part
section
variable {P : Program} {w : World} {K : PySem.W.Frag} {mg : Str → Option Value} {base : Heap}
theorem ok_greater_part {f : Addr} {fd : FuncData} (F : Fun K "greater_part" "greater_part" sgreater_part f fd) (F_closed_members : Own P w K mg base 1 "closed_members" 2 r_closed_members) (F_moved_members : Own P w K mg base 3 "moved_members" 3 r_moved_members) (F_power_of : Own P w K mg base 1 "power_of" 3 r_power_of) (Pr_all_products : OwnProp P w K mg base 1 aG "all_products" r_p_all_products) (Pr_size : OwnProp P w K mg base 1 aG "size" r_p_size) (z_range : mg "range" = none) : FnOk P w K mg base CX0 4 f fd ["group", "part", "prime"] (spD K 3 r_greater_part) := by
  have sc := scgreater_part
  refine F.ok sc (fun vs H Q E h => spD_len h) (fun cdv A outer s H vs Q E hr h => ?_)
  refine ⟨tSeq (tAsg (tProp aG (spD K 1 r_p_all_products) [] E0 (tVar 0)) (gName 3)) (tSeq (tAsg (tLc (iRng1 (tCons (tProp aG (spD K 1 r_p_size) [] E0 (tVar 0)) (tNil))) (gName 4) (tAnd (tTest (tOp (rIn K true) (tVar 4) (tVar 1))) (tAnd (tTest (tOp (rIn K false) (tCall (spD K 3 r_power_of) [] E0 (tCons (tVar 3) (tCons (tVar 4) (tCons (tVar 2) (tNil))))) (tVar 1))) (tTest (tOp (rEqD K) (tCall (spD K 3 r_moved_members) [] E0 (tCons (tVar 0) (tCons (tVar 1) (tCons (tVar 4) (tNil))))) (tVar 1))))) (tVar 4) [4]) (gName 5)) (tRet (tCall (spD K 2 r_closed_members) [] E0 (tCons (tVar 3) (tCons (tOp (rCatA K) (tVar 1) (tTup (tCons (tOp (rIx K) (tVar 5) (tC (.int 0))) (tNil)))) (tNil)))))), pss_cons (ps_set (i := 3) sc.nd rfl (.inr rfl) (pe_prop (pv 0) Pr_all_products.c Pr_all_products.h Pr_all_products.F (hr.mono (by decide)) Pr_all_products.b .nil pass0 (by rfl))) (pss_cons (ps_setLc (i := 5) (own := [("member", 4)]) rfl sc.nd rfl rfl (sw_true rfl rfl rfl (by decide +kernel)) (pi_range1 rfl z_range (pa_cons (pe_prop (pv 0) Pr_size.c Pr_size.h Pr_size.F (hr.mono (by decide)) Pr_size.b .nil pass0 (by rfl)) (pa_nil))) (blkOk_by (by rfl)) (fun _ _ _ _ _ => pg_name (i := 4) sc.nd rfl (.inl rfl)) (fun _ _ _ _ _ => pts_one (PW.pt (pw_and (pt_cmpR op_notIn_seq (pv 4) (pv 1) (by rfl)) (pw_and (pt_cmpR op_in_seq (pe_call F_power_of.F (hr.mono (by decide)) rfl F_power_of.g F_power_of.k F_power_of.b .nil pass0 (pa_cons (pv 3) (pa_cons (pv 4) (pa_cons (pv 2) (pa_nil))))) (pv 1) (by rfl)) (pw_and1 (pt_cmpR (op_eqD (hu64 hr)) (pe_call F_moved_members.F (hr.mono (by decide)) rfl F_moved_members.g F_moved_members.k F_moved_members.b .nil pass0 (pa_cons (pv 0) (pa_cons (pv 1) (pa_cons (pv 4) (pa_nil))))) (pv 1) (nomark _))))))) (fun _ _ _ _ _ => pv 4)) (pss_one (ps_ret (pe_call F_closed_members.F (hr.mono (by decide)) rfl F_closed_members.g F_closed_members.k F_closed_members.b .nil pass0 (pa_cons (pv 3) (pa_cons (pe_op op_catA (pv 1) (pe_tup (pa_cons (pe_ix ix_seq (pv 5) (pe_int) (fun _ _ => rfl)) (pa_nil)))) (pa_nil))))))), ?_⟩
  exact body_end (m := mgreater_part) h (fun F0 H0 => sx_seq (sx_asg (ex_prop (ex_var 0)) (gx_name 3)) (sx_seq (sx_own 5 (ox_lc (wx_range1 (ab_cons ((ex_prop (ex_var 0)).b) (ab_nil)) (mCons_len (mNil_len))) (gw_name 4) (tx_and (tx_test (ex_op op_inF (bx_var 4) (bx_var 1)).b) (tx_and (tx_test (ex_op op_inF ((ex_call (ax_cons (ex_var 3) (ax_cons (ex_var 4) (ax_cons (ex_var 2) (ax_nil))))).b) (bx_var 1)).b) (tx_test (ex_op op_eqB ((ex_call (ax_cons (ex_var 0) (ax_cons (ex_var 1) (ax_cons (ex_var 4) (ax_nil))))).b) (bx_var 1)).b))) (ex_var 4))) (sx_ret (ex_call (ax_cons (ex_var 3) (ax_cons (ex_opF op_cat' (ex_var 1) (ex_tup (ax_cons (ex_ix (bx_var 5) ((ex_int 0).b)) (ax_nil)))) (ax_nil)))))))
end
abbrev sprime_part : Stmt := top 33
theorem scprime_part : FnScope ["group", "prime", "part"] ["group", "prime"] (defScope sprime_part) := ⟨rfl, rfl, rfl, by decide +kernel, rfl, by decide +kernel, by decide +kernel⟩
def mprime_part : M Fl := mSeq ((fun δ => ((mCall 1 r_need_group (mCons (mFro 0) (mNil))) δ).map fun _ => .nx δ)) (mSeq ((fun δ => ((mCall 1 r_need_prime (mCons (mFro 1) (mNil))) δ).map fun _ => .nx δ)) (mSeq (mAsg (mTup (mCons (mC (.int 0)) (mNil))) (stN 2)) (mSeq (mWhile 10 (mBool (m2 (fEq false) (m2 (fI cPos fun i j => i % j) (m2 (fI cDiv fun i j => i / j) (mProp aG r_p_size (mFro 0)) (mB (f1 fLen) (mCons (mAny 2) (mNil)))) (mAny 1)) (mC (.int 0)))) (mAsg (mCall 3 r_greater_part (mCons (mFro 0) (mCons (mFro 2) (mCons (mFro 1) (mNil))))) (stN 2))) (mRet (mFro 2)))))
def r_prime_part : List D → Option D := runD 3 mprime_part
section
variable {P : Program} {w : World} {K : PySem.W.Frag} {mg : Str → Option Value} {base : Heap}
theorem ok_prime_part {f : Addr} {fd : FuncData} (F : Fun K "prime_part" "prime_part" sprime_part f fd) (F_greater_part : Own P w K mg base 4 "greater_part" 3 r_greater_part) (F_need_group : Own P w K mg base 1 "need_group" 1 r_need_group) (F_need_prime : Own P w K mg base 3 "need_prime" 1 r_need_prime) (Pr_size : OwnProp P w K mg base 1 aG "size" r_p_size) (z_len : mg "len" = none) : FnOk P w K mg base CX0 5 f fd ["group", "prime"] (spD K 2 r_prime_part) := by
  have sc := scprime_part
  refine F.ok sc (fun vs H Q E h => spD_len h) (fun cdv A outer s H vs Q E hr h => ?_)
  refine ⟨tSeq (tDrop (tCall (spD K 1 r_need_group) [] E0 (tCons (tVar 0) (tNil)))) (tSeq (tDrop (tCall (spD K 1 r_need_prime) [] E0 (tCons (tVar 1) (tNil)))) (tSeq (tAsg (tTup (tCons (tC (.int 0)) (tNil))) (gName 2)) (tSeq (tWhile (tTest (tOp (rEqD K) (tOp (rI (fun _ j => 0 < j) fun i j => V.int (i % j)) (tOp (rI CDiv fun i j => V.int (i / j)) (tProp aG (spD K 1 r_p_size) [] E0 (tVar 0)) (tCB (rLenQ K) (tCons (tVar 2) (tNil)))) (tVar 1)) (tC (.int 0)))) (tAsg (tCall (spD K 3 r_greater_part) [] E0 (tCons (tVar 0) (tCons (tVar 2) (tCons (tVar 1) (tNil))))) (gName 2))) (tRet (tVar 2))))), pss_cons (ps_expr (pe_call F_need_group.F (hr.mono (by decide)) rfl F_need_group.g F_need_group.k F_need_group.b .nil pass0 (pa_cons (pv 0) (pa_nil)))) (pss_cons (ps_expr (pe_call F_need_prime.F (hr.mono (by decide)) rfl F_need_prime.g F_need_prime.k F_need_prime.b .nil pass0 (pa_cons (pv 1) (pa_nil)))) (pss_cons (ps_set (i := 2) sc.nd rfl (.inl rfl) (pe_tup (pa_cons (pe_int) (pa_nil)))) (pss_cons (ps_while PassesOwn.never (pt_cmpR (op_eqD (hu64 hr)) (pe_op op_mod (pe_op op_fdiv (pe_prop (pv 0) Pr_size.c Pr_size.h Pr_size.F (hr.mono (by decide)) Pr_size.b .nil pass0 (by rfl)) (pe_callB hLenQ rfl z_len (by decide +kernel) (pa_cons (pv 2) (pa_nil)))) (pv 1)) (pe_int) (nomark _)) (pss_one (ps_set (i := 2) sc.nd rfl (.inl rfl) (pe_call F_greater_part.F (hr.mono (by decide)) rfl F_greater_part.g F_greater_part.k F_greater_part.b .nil pass0 (pa_cons (pv 0) (pa_cons (pv 2) (pa_cons (pv 1) (pa_nil)))))))) (pss_one (ps_ret (pv 2)))))), ?_⟩
  exact body_end (m := mprime_part) h (fun F0 H0 => sx_seq (sx_expr (ex_call (ax_cons (ex_var 0) (ax_nil))).b) (sx_seq (sx_expr (ex_call (ax_cons (ex_var 1) (ax_nil))).b) (sx_seq (sx_asg (ex_tup (ax_cons (ex_int 0) (ax_nil))) (gx_name 2)) (sx_seq (sx_while 10 (tx_test (ex_op op_eqB ((ex_op (op_rI cPos_ok) ((ex_op (op_rI cDiv_ok) ((ex_prop (ex_var 0)).b) ((ex_cb bLenQ (ab_cons (bx_var 2) (ab_nil))).b)).b) (bx_var 1)).b) ((ex_int 0).b)).b) (sx_asg (ex_call (ax_cons (ex_var 0) (ax_cons (ex_var 2) (ax_cons (ex_var 1) (ax_nil))))) (gx_name 2))) (sx_ret (ex_var 2))))))
end
abbrev snormalizer_of : Stmt := top 35
theorem scnormalizer_of : FnScope ["group", "part", "member"] ["group", "part"] (defScope snormalizer_of) := ⟨rfl, rfl, rfl, by decide +kernel, rfl, by decide +kernel, by decide +kernel⟩
def mnormalizer_of : M Fl := mSeq ((fun δ => ((mCall 2 r_need_part (mCons (mFro 0) (mCons (mFro 1) (mNil)))) δ).map fun _ => .nx δ)) (mRet (mB (f1 fun d => (lstD d).map D.tup) (mCons (mLc [2] (mRng (mCons (mProp aG r_p_size (mFro 0)) (mNil))) (stN 2) (mBool (m2 (fEq false) (mCall 3 r_moved_members (mCons (mFro 0) (mCons (mFro 1) (mCons (mFro 2) (mNil))))) (mAny 1))) (mFro 2)) (mNil))))
def r_normalizer_of : List D → Option D := runD 3 mnormalizer_of
section
variable {P : Program} {w : World} {K : PySem.W.Frag} {mg : Str → Option Value} {base : Heap}
theorem ok_normalizer_of {f : Addr} {fd : FuncData} (F : Fun K "normalizer_of" "normalizer_of" snormalizer_of f fd) (F_moved_members : Own P w K mg base 3 "moved_members" 3 r_moved_members) (F_need_part : Own P w K mg base 6 "need_part" 2 r_need_part) (Pr_size : OwnProp P w K mg base 1 aG "size" r_p_size) (z_range : mg "range" = none) (z_tuple : mg "tuple" = none) : FnOk P w K mg base CX0 7 f fd ["group", "part"] (spD K 2 r_normalizer_of) := by
  have sc := scnormalizer_of
  refine F.ok sc (fun vs H Q E h => spD_len h) (fun cdv A outer s H vs Q E hr h => ?_)
  refine ⟨tSeq (tDrop (tCall (spD K 2 r_need_part) [] E0 (tCons (tVar 0) (tCons (tVar 1) (tNil))))) (tRet (tCB (rTupQ K) (tCons (tLc (iRng1 (tCons (tProp aG (spD K 1 r_p_size) [] E0 (tVar 0)) (tNil))) (gName 2) (tTest (tOp (rEqD K) (tCall (spD K 3 r_moved_members) [] E0 (tCons (tVar 0) (tCons (tVar 1) (tCons (tVar 2) (tNil))))) (tVar 1))) (tVar 2) [2]) (tNil)))), pss_cons (ps_expr (pe_call F_need_part.F (hr.mono (by decide)) rfl F_need_part.g F_need_part.k F_need_part.b .nil pass0 (pa_cons (pv 0) (pa_cons (pv 1) (pa_nil))))) (pss_one (ps_ret (pe_callTy hTupQ rfl z_tuple (by decide +kernel) (pa_cons (pe_lc (own := [("member", 2)]) rfl sc.nd (pi_range1 rfl z_range (pa_cons (pe_prop (pv 0) Pr_size.c Pr_size.h Pr_size.F (hr.mono (by decide)) Pr_size.b .nil pass0 (by rfl)) (pa_nil))) (blkOk_by (by rfl)) (fun _ _ _ _ _ => pg_name (i := 2) sc.nd rfl (.inl rfl)) (fun _ _ _ _ _ => pts_one (pt_cmpR (op_eqD (hu64 hr)) (pe_call F_moved_members.F (hr.mono (by decide)) rfl F_moved_members.g F_moved_members.k F_moved_members.b .nil pass0 (pa_cons (pv 0) (pa_cons (pv 1) (pa_cons (pv 2) (pa_nil))))) (pv 1) (nomark _))) (fun _ _ _ _ _ => pv 2)) (pa_nil))))), ?_⟩
  exact body_end (m := mnormalizer_of) h (fun F0 H0 => sx_seq (sx_expr (ex_call (ax_cons (ex_var 0) (ax_cons (ex_var 1) (ax_nil)))).b) (sx_ret (ex_cb bTupQ (ab_cons ((ox_lc (wx_range1 (ab_cons ((ex_prop (ex_var 0)).b) (ab_nil)) (mCons_len (mNil_len))) (gw_name 2) (tx_test (ex_op op_eqB ((ex_call (ax_cons (ex_var 0) (ax_cons (ex_var 1) (ax_cons (ex_var 2) (ax_nil))))).b) (bx_var 1)).b) (ex_var 2)).b) (ab_nil)))))
end
abbrev scentralizer_of : Stmt := top 36
theorem sccentralizer_of : FnScope ["group", "part", "products", "member", "inner"] ["group", "part"] (defScope scentralizer_of) := ⟨rfl, rfl, rfl, by decide +kernel, rfl, by decide +kernel, by decide +kernel⟩
def mcentralizer_of : M Fl := mSeq ((fun δ => ((mCall 2 r_need_part (mCons (mFro 0) (mCons (mFro 1) (mNil)))) δ).map fun _ => .nx δ)) (mSeq (mAsg (mProp aG r_p_all_products (mFro 0)) (stN 2)) (mRet (mB (f1 fun d => (lstD d).map D.tup) (mCons (mLc [3] (mRng (mCons (mProp aG r_p_size (mFro 0)) (mNil))) (stN 3) (mBool (mB (f1 fAll) (mCons (mLc [4] (mItT (mFro 1)) (stN 4) (fun _ => some true) (m2 (fEq false) (m2 fIx (m2 fIx (mAny 2) (mAny 3)) (mAny 4)) (m2 fIx (m2 fIx (mAny 2) (mAny 4)) (mAny 3)))) (mNil)))) (mFro 3)) (mNil)))))
def r_centralizer_of : List D → Option D := runD 5 mcentralizer_of
section
variable {P : Program} {w : World} {K : PySem.W.Frag} {mg : Str → Option Value} {base : Heap}
theorem ok_centralizer_of {f : Addr} {fd : FuncData} (F : Fun K "centralizer_of" "centralizer_of" scentralizer_of f fd) (F_need_part : Own P w K mg base 6 "need_part" 2 r_need_part) (Pr_all_products : OwnProp P w K mg base 1 aG "all_products" r_p_all_products) (Pr_size : OwnProp P w K mg base 1 aG "size" r_p_size) (z_all : mg "all" = none) (z_range : mg "range" = none) (z_tuple : mg "tuple" = none) : FnOk P w K mg base CX0 7 f fd ["group", "part"] (spD K 2 r_centralizer_of) := by
  have sc := sccentralizer_of
  refine F.ok sc (fun vs H Q E h => spD_len h) (fun cdv A outer s H vs Q E hr h => ?_)
  refine ⟨tSeq (tDrop (tCall (spD K 2 r_need_part) [] E0 (tCons (tVar 0) (tCons (tVar 1) (tNil))))) (tSeq (tAsg (tProp aG (spD K 1 r_p_all_products) [] E0 (tVar 0)) (gName 2)) (tRet (tCB (rTupQ K) (tCons (tLc (iRng1 (tCons (tProp aG (spD K 1 r_p_size) [] E0 (tVar 0)) (tNil))) (gName 3) (tB (tCB (rAll K) (tCons (tLc (iTup K (tVar 1)) (gName 4) (tYes) (tOp (rEqD K) (tOp (rIx K) (tOp (rIx K) (tVar 2) (tVar 3)) (tVar 4)) (tOp (rIx K) (tOp (rIx K) (tVar 2) (tVar 4)) (tVar 3))) [4]) (tNil)))) (tVar 3) [3]) (tNil))))), pss_cons (ps_expr (pe_call F_need_part.F (hr.mono (by decide)) rfl F_need_part.g F_need_part.k F_need_part.b .nil pass0 (pa_cons (pv 0) (pa_cons (pv 1) (pa_nil))))) (pss_cons (ps_set (i := 2) sc.nd rfl (.inr rfl) (pe_prop (pv 0) Pr_all_products.c Pr_all_products.h Pr_all_products.F (hr.mono (by decide)) Pr_all_products.b .nil pass0 (by rfl))) (pss_one (ps_ret (pe_callTy hTupQ rfl z_tuple (by decide +kernel) (pa_cons (pe_lc (own := [("member", 3)]) rfl sc.nd (pi_range1 rfl z_range (pa_cons (pe_prop (pv 0) Pr_size.c Pr_size.h Pr_size.F (hr.mono (by decide)) Pr_size.b .nil pass0 (by rfl)) (pa_nil))) (blkOk_by (by rfl)) (fun _ _ _ _ _ => pg_name (i := 3) sc.nd rfl (.inr rfl)) (fun _ _ _ _ _ => pts_one (pt_val (pe_callB (cr_all rfl) rfl z_all (by decide +kernel) (pa_cons (pe_lc (own := [("inner", 4)]) rfl sc.nd (pi_tup (pv 1)) (blkOk_by (by rfl)) (fun _ _ _ _ _ => pg_name (i := 4) sc.nd rfl (.inl rfl)) (fun _ _ _ _ _ => pts_nil) (fun _ _ _ _ _ => pe_cmpR (op_eqD (hu64 hr)) (pe_ix ix_seq (pe_ix ix_seq (pv 2) (pv 3) (fun _ _ => rfl)) (pv 4) (fun _ _ => rfl)) (pe_ix ix_seq (pe_ix ix_seq (pv 2) (pv 4) (fun _ _ => rfl)) (pv 3) (fun _ _ => rfl)) (nomark _))) (pa_nil))) (fun _ => rfl))) (fun _ _ _ _ _ => pv 3)) (pa_nil)))))), ?_⟩
  exact body_end (m := mcentralizer_of) h (fun F0 H0 => sx_seq (sx_expr (ex_call (ax_cons (ex_var 0) (ax_cons (ex_var 1) (ax_nil)))).b) (sx_seq (sx_asg (ex_prop (ex_var 0)) (gx_name 2)) (sx_ret (ex_cb bTupQ (ab_cons ((ox_lc (wx_range1 (ab_cons ((ex_prop (ex_var 0)).b) (ab_nil)) (mCons_len (mNil_len))) (gw_name 3) (tx_b ((ex_cb cb_all (ab_cons ((ox_lc (wx_tup (ex_var 1)) (gw_name 4) (tx_yes) (ex_op op_eqB ((ex_ix ((ex_ix (bx_var 2) (bx_var 3)).b) (bx_var 4)).b) ((ex_ix ((ex_ix (bx_var 2) (bx_var 4)).b) (bx_var 3)).b))).b) (ab_nil))).b)) (ex_var 3)).b) (ab_nil))))))
end
abbrev sprimes_of : Stmt := top 42
theorem scprimes_of : FnScope ["number", "found", "prime"] ["number"] (defScope sprimes_of) := ⟨rfl, rfl, rfl, by decide +kernel, rfl, by decide +kernel, by decide +kernel⟩
def mprimes_of : M Fl := mSeq (mOwnX 1 2 (mLst (mNil)) (mC (.int 2))) (mSeq (mWhile 60 (mBool (m2 (fB fun i j => decide (j < i)) (mAny 0) (mC (.int 1)))) (mSeq (mIf (mBool (m2 (fEq false) (m2 (fI cPos fun i j => i % j) (mAny 0) (mAny 2)) (mC (.int 0)))) (mSeq (mAppend 1 (mFro 2)) (mWhile 200 (mBool (m2 (fEq false) (m2 (fI cPos fun i j => i % j) (mAny 0) (mAny 2)) (mC (.int 0)))) (mAsg (m2 (fI cDiv fun i j => i / j) (mAny 0) (mAny 2)) (stN 0)))) (mNext)) (mAug 2 (fI (fun _ _ => true) fun i j => i + j) (mC (.int 1))))) ((fun δ => mRet (mFro 1) (frz 1 δ))))
def r_primes_of : List D → Option D := runD 3 mprimes_of
section
variable {P : Program} {w : World} {K : PySem.W.Frag} {mg : Str → Option Value} {base : Heap}
theorem ok_primes_of {f : Addr} {fd : FuncData} (F : Fun K "primes_of" "primes_of" sprimes_of f fd)  : FnOk P w K mg base CX0 1 f fd ["number"] (spD K 1 r_primes_of) := by
  have sc := scprimes_of
  refine F.ok sc (fun vs H Q E h => spD_len h) (fun cdv A outer s H vs Q E hr h => ?_)
  refine ⟨tSeq (tPar 1 2 (tCons (tLst (tNil)) (tCons (tC (.int 2)) tNil))) (tSeq (tWhile (tTest (tOp (rI0 fun i j => V.bl (decide (j < i))) (tVar 0) (tC (.int 1)))) (tSeq (tIfS (tTest (tOp (rEqD K) (tOp (rI (fun _ j => 0 < j) fun i j => V.int (i % j)) (tVar 0) (tVar 2)) (tC (.int 0)))) (tSeq (tDrop (tBM K "list" rAppend (tVar 1) (tCons (tVar 2) tNil))) (tWhile (tTest (tOp (rEqD K) (tOp (rI (fun _ j => 0 < j) fun i j => V.int (i % j)) (tVar 0) (tVar 2)) (tC (.int 0)))) (tAsg (tOp (rI CDiv fun i j => V.int (i / j)) (tVar 0) (tVar 2)) (gName 0)))) (tNext)) (tAug 2 (tC (.int 1)) (ipI fun i j => i + j)))) (tRet (tVar 1))), pss_cons (ps_par rfl sc.nd rfl rfl (by decide) rfl rfl (pa_cons (pe_lst (pa_nil)) (pa_cons (pe_int) pa_nil)) rfl) (pss_cons (ps_while PassesOwn.never (pt_cmpR op_gt (pv 0) (pe_int) (nomark _)) (pss_cons (ps_if (pt_cmpR (op_eqD (hu64 hr)) (pe_op op_mod (pv 0) (pv 2)) (pe_int) (nomark _)) (pss_cons (ps_expr (pe_bm PySem.F.plainAttrs_list PySem.F.slot_list_append PySem.F.type_list_append mt_append (pv 1) (pa_cons (pv 2) pa_nil))) (pss_one (ps_while PassesOwn.never (pt_cmpR (op_eqD (hu64 hr)) (pe_op op_mod (pv 0) (pv 2)) (pe_int) (nomark _)) (pss_one (ps_set (i := 0) sc.nd rfl (.inl rfl) (pe_op op_fdiv (pv 0) (pv 2))))))) (pss_nil)) (pss_one (ps_aug sc.nd rfl (.inl rfl) (pe_int) ip_add)))) (pss_one (ps_ret (pv 1)))), ?_⟩
  exact body_end (m := mprimes_of) h (fun F0 H0 => sx_seq (sx_ownX 1 2 (ox_lst (ax_nil)) (ex_int 2)) (sx_seq (sx_while 60 (tx_test (ex_op op_rB (bx_var 0) ((ex_int 1).b)).b) (sx_seq (sx_if (tx_test (ex_op op_eqB ((ex_op (op_rI cPos_ok) (bx_var 0) (bx_var 2)).b) ((ex_int 0).b)).b) (sx_seq (sx_append 1 (ex_var 2)) (sx_while 200 (tx_test (ex_op op_eqB ((ex_op (op_rI cPos_ok) (bx_var 0) (bx_var 2)).b) ((ex_int 0).b)).b) (sx_asg (ex_op (op_rI cDiv_ok) (bx_var 0) (bx_var 2)) (gx_name 0)))) (sx_next)) (sx_aug (i := 2) (r := ipI fun i j => i + j) (op_rI0 (g := fun i j => i + j)) (ex_int 1)))) (sx_frz 1 (sx_ret (ex_var 1)))))
end
abbrev sgreatest_power : Stmt := top 49
theorem scgreatest_power : FnScope ["group", "prime", "power"] ["group", "prime"] (defScope sgreatest_power) := ⟨rfl, rfl, rfl, by decide +kernel, rfl, by decide +kernel, by decide +kernel⟩
def mgreatest_power : M Fl := mSeq (mAsg (mFro 1) (stN 2)) (mSeq (mWhile 10 (mBool (m2 (fEq false) (m2 (fI cPos fun i j => i % j) (m2 (fI cDiv fun i j => i / j) (mProp aG r_p_size (mFro 0)) (mAny 2)) (mAny 1)) (mC (.int 0)))) (mAsg (m2 (fI cMul fun i j => i * j) (mAny 2) (mAny 1)) (stN 2))) (mRet (mFro 2)))
def r_greatest_power : List D → Option D := runD 3 mgreatest_power
section
variable {P : Program} {w : World} {K : PySem.W.Frag} {mg : Str → Option Value} {base : Heap}
theorem ok_greatest_power {f : Addr} {fd : FuncData} (F : Fun K "greatest_power" "greatest_power" sgreatest_power f fd) (Pr_size : OwnProp P w K mg base 1 aG "size" r_p_size) : FnOk P w K mg base CX0 3 f fd ["group", "prime"] (spD K 2 r_greatest_power) := by
  have sc := scgreatest_power
  refine F.ok sc (fun vs H Q E h => spD_len h) (fun cdv A outer s H vs Q E hr h => ?_)
  refine ⟨tSeq (tAsg (tVar 1) (gName 2)) (tSeq (tWhile (tTest (tOp (rEqD K) (tOp (rI (fun _ j => 0 < j) fun i j => V.int (i % j)) (tOp (rI CDiv fun i j => V.int (i / j)) (tProp aG (spD K 1 r_p_size) [] E0 (tVar 0)) (tVar 2)) (tVar 1)) (tC (.int 0)))) (tAsg (tOp (rI CMul fun i j => V.int (i * j)) (tVar 2) (tVar 1)) (gName 2))) (tRet (tVar 2))), pss_cons (ps_set (i := 2) sc.nd rfl (.inl rfl) (pv 1)) (pss_cons (ps_while PassesOwn.never (pt_cmpR (op_eqD (hu64 hr)) (pe_op op_mod (pe_op op_fdiv (pe_prop (pv 0) Pr_size.c Pr_size.h Pr_size.F (hr.mono (by decide)) Pr_size.b .nil pass0 (by rfl)) (pv 2)) (pv 1)) (pe_int) (nomark _)) (pss_one (ps_set (i := 2) sc.nd rfl (.inl rfl) (pe_op op_mul (pv 2) (pv 1))))) (pss_one (ps_ret (pv 2)))), ?_⟩
  exact body_end (m := mgreatest_power) h (fun F0 H0 => sx_seq (sx_asg (ex_var 1) (gx_name 2)) (sx_seq (sx_while 10 (tx_test (ex_op op_eqB ((ex_op (op_rI cPos_ok) ((ex_op (op_rI cDiv_ok) ((ex_prop (ex_var 0)).b) (bx_var 2)).b) (bx_var 1)).b) ((ex_int 0).b)).b) (sx_asg (ex_op (op_rI cMul_ok) (bx_var 2) (bx_var 1)) (gx_name 2))) (sx_ret (ex_var 2))))
end
abbrev sis_eight : Stmt := top 50
theorem scis_eight : FnScope ["group", "one", "other", "products", "inverses", "order"] ["group", "one", "other"] (defScope sis_eight) := ⟨rfl, rfl, rfl, by decide +kernel, rfl, by decide +kernel, by decide +kernel⟩
def mis_eight : M Fl := mSeq (mPar 3 4 (mCons (mProp aG r_p_all_products (mFro 0)) (mCons (mProp aG r_p_all_inverses (mFro 0)) mNil))) (mSeq (mAsg (mCall 2 r_order_of (mCons (mFro 3) (mCons (mFro 1) (mNil)))) (stN 5)) (mSeq (mIf (mOr (mBool (m2 (fB fun i j => decide (i < j)) (mAny 5) (mC (.int 4)))) (mOr (mBool (m2 (fEq true) (m2 (fI cMul fun i j => i * j) (mC (.int 2)) (mAny 5)) (mCall 2 r_greatest_power (mCons (mFro 0) (mCons (mC (.int 2)) (mNil)))))) (mBool (m2 (fInF false) (mAny 2) (mCall 2 r_closed_members (mCons (mFro 3) (mCons (mTup (mCons (mFro 1) (mNil))) (mNil)))))))) (mRet (mC (.bl false))) (mNext)) (mRet (mAndV (m2 (fEq false) (m2 fIx (m2 fIx (mAny 3) (mAny 2)) (mAny 2)) (mCall 3 r_power_of (mCons (mFro 3) (mCons (mFro 1) (mCons (m2 (fI cDiv fun i j => i / j) (mAny 5) (mC (.int 2))) (mNil)))))) (m2 (fEq false) (m2 fIx (m2 fIx (mAny 3) (mAny 2)) (mAny 1)) (m2 fIx (m2 fIx (mAny 3) (m2 fIx (mAny 4) (mAny 1))) (mAny 2)))))))
def r_is_eight : List D → Option D := runD 6 mis_eight
section
variable {P : Program} {w : World} {K : PySem.W.Frag} {mg : Str → Option Value} {base : Heap}
theorem ok_is_eight {f : Addr} {fd : FuncData} (F : Fun K "is_eight" "is_eight" sis_eight f fd) (F_closed_members : Own P w K mg base 1 "closed_members" 2 r_closed_members) (F_greatest_power : Own P w K mg base 3 "greatest_power" 2 r_greatest_power) (F_order_of : Own P w K mg base 1 "order_of" 2 r_order_of) (F_power_of : Own P w K mg base 1 "power_of" 3 r_power_of) (Pr_all_inverses : OwnProp P w K mg base 1 aG "all_inverses" r_p_all_inverses) (Pr_all_products : OwnProp P w K mg base 1 aG "all_products" r_p_all_products) : FnOk P w K mg base CX0 4 f fd ["group", "one", "other"] (spD K 3 r_is_eight) := by
  have sc := scis_eight
  refine F.ok sc (fun vs H Q E h => spD_len h) (fun cdv A outer s H vs Q E hr h => ?_)
  refine ⟨tSeq (tPar 3 4 (tCons (tProp aG (spD K 1 r_p_all_products) [] E0 (tVar 0)) (tCons (tProp aG (spD K 1 r_p_all_inverses) [] E0 (tVar 0)) tNil))) (tSeq (tAsg (tCall (spD K 2 r_order_of) [] E0 (tCons (tVar 3) (tCons (tVar 1) (tNil)))) (gName 5)) (tSeq (tIfS (tOr (tTest (tOp (rI0 fun i j => V.bl (decide (i < j))) (tVar 5) (tC (.int 4)))) (tOr (tTest (tOp (rNeD K) (tOp (rI CMul fun i j => V.int (i * j)) (tC (.int 2)) (tVar 5)) (tCall (spD K 2 r_greatest_power) [] E0 (tCons (tVar 0) (tCons (tC (.int 2)) (tNil)))))) (tTest (tOp (rIn K false) (tVar 2) (tCall (spD K 2 r_closed_members) [] E0 (tCons (tVar 3) (tCons (tTup (tCons (tVar 1) (tNil))) (tNil)))))))) (tRet (tC (.bl false))) (tNext)) (tRet (tAndV (tOp (rEqD K) (tOp (rIx K) (tOp (rIx K) (tVar 3) (tVar 2)) (tVar 2)) (tCall (spD K 3 r_power_of) [] E0 (tCons (tVar 3) (tCons (tVar 1) (tCons (tOp (rI CDiv fun i j => V.int (i / j)) (tVar 5) (tC (.int 2))) (tNil)))))) (tOp (rEqD K) (tOp (rIx K) (tOp (rIx K) (tVar 3) (tVar 2)) (tVar 1)) (tOp (rIx K) (tOp (rIx K) (tVar 3) (tOp (rIx K) (tVar 4) (tVar 1))) (tVar 2))))))), pss_cons (ps_par rfl sc.nd rfl rfl (by decide) rfl rfl (pa_cons (pe_prop (pv 0) Pr_all_products.c Pr_all_products.h Pr_all_products.F (hr.mono (by decide)) Pr_all_products.b .nil pass0 (by rfl)) (pa_cons (pe_prop (pv 0) Pr_all_inverses.c Pr_all_inverses.h Pr_all_inverses.F (hr.mono (by decide)) Pr_all_inverses.b .nil pass0 (by rfl)) pa_nil)) rfl) (pss_cons (ps_set (i := 5) sc.nd rfl (.inl rfl) (pe_call F_order_of.F (hr.mono (by decide)) rfl F_order_of.g F_order_of.k F_order_of.b .nil pass0 (pa_cons (pv 3) (pa_cons (pv 1) (pa_nil))))) (pss_cons (ps_if (PW.pt (pw_or (pt_cmpR op_lt (pv 5) (pe_int) (nomark _)) (pw_or (pt_cmpR (op_neD (hu64 hr)) (pe_op op_mul (pe_int) (pv 5)) (pe_call F_greatest_power.F (hr.mono (by decide)) rfl F_greatest_power.g F_greatest_power.k F_greatest_power.b .nil pass0 (pa_cons (pv 0) (pa_cons (pe_int) (pa_nil)))) (nomark _)) (pw_or1 (pt_cmpR op_in_seq (pv 2) (pe_call F_closed_members.F (hr.mono (by decide)) rfl F_closed_members.g F_closed_members.k F_closed_members.b .nil pass0 (pa_cons (pv 3) (pa_cons (pe_tup (pa_cons (pv 1) (pa_nil))) (pa_nil)))) (by rfl)))))) (pss_one (ps_ret (pe_bl))) (pss_nil)) (pss_one (ps_ret (pe_and (pe_cmpR (op_eqD (hu64 hr)) (pe_ix ix_seq (pe_ix ix_seq (pv 3) (pv 2) (fun _ _ => rfl)) (pv 2) (fun _ _ => rfl)) (pe_call F_power_of.F (hr.mono (by decide)) rfl F_power_of.g F_power_of.k F_power_of.b .nil pass0 (pa_cons (pv 3) (pa_cons (pv 1) (pa_cons (pe_op op_fdiv (pv 5) (pe_int)) (pa_nil))))) (nomark _)) (pe_one (pe_cmpR (op_eqD (hu64 hr)) (pe_ix ix_seq (pe_ix ix_seq (pv 3) (pv 2) (fun _ _ => rfl)) (pv 1) (fun _ _ => rfl)) (pe_ix ix_seq (pe_ix ix_seq (pv 3) (pe_ix ix_seq (pv 4) (pv 1) (fun _ _ => rfl)) (fun _ _ => rfl)) (pv 2) (fun _ _ => rfl)) (nomark _)))))))), ?_⟩
  exact body_end (m := mis_eight) h (fun F0 H0 => sx_seq (sx_par (i := 3) (j := 4) (ax_cons (ex_prop (ex_var 0)) (ax_cons (ex_prop (ex_var 0)) ax_nil))) (sx_seq (sx_asg (ex_call (ax_cons (ex_var 3) (ax_cons (ex_var 1) (ax_nil)))) (gx_name 5)) (sx_seq (sx_if (tx_or (tx_test (ex_op op_rB (bx_var 5) ((ex_int 4).b)).b) (tx_or (tx_test (ex_op op_neB ((ex_op (op_rI cMul_ok) ((ex_int 2).b) (bx_var 5)).b) ((ex_call (ax_cons (ex_var 0) (ax_cons (ex_int 2) (ax_nil)))).b)).b) (tx_test (ex_op op_inF (bx_var 2) ((ex_call (ax_cons (ex_var 3) (ax_cons (ex_tup (ax_cons (ex_var 1) (ax_nil))) (ax_nil)))).b)).b))) (sx_ret (ex_bl false)) (sx_next)) (sx_ret (ex_and ((ex_op op_eqB ((ex_ix ((ex_ix (bx_var 3) (bx_var 2)).b) (bx_var 2)).b) ((ex_call (ax_cons (ex_var 3) (ax_cons (ex_var 1) (ax_cons (ex_op (op_rI cDiv_ok) (bx_var 5) ((ex_int 2).b)) (ax_nil))))).b)).b) (ex_op op_eqB ((ex_ix ((ex_ix (bx_var 3) (bx_var 2)).b) (bx_var 1)).b) ((ex_ix ((ex_ix (bx_var 3) ((ex_ix (bx_var 4) (bx_var 1)).b)).b) (bx_var 2)).b)))))))
end
abbrev sentry_for : Stmt := top 51
theorem scentry_for : FnScope ["group", "prime", "power", "member", "one", "other"] ["group", "prime"] (defScope sentry_for) := ⟨rfl, rfl, rfl, by decide +kernel, rfl, by decide +kernel, by decide +kernel⟩
def mentry_for : M Fl := mSeq (mAsg (mCall 2 r_greatest_power (mCons (mFro 0) (mCons (mFro 1) (mNil)))) (stN 2)) (mSeq (mFor (mRng (mCons (mProp aG r_p_size (mFro 0)) (mNil))) (stN 3) (mIf (mBool (m2 (fEq false) (mCall 2 r_order_of (mCons (mProp aG r_p_all_products (mFro 0)) (mCons (mFro 3) (mNil)))) (mAny 2))) (mRet (mTup (mCons (mFro 1) (mCons (mC (.str "round")) (mCons (mFro 3) (mNil)))))) (mNext))) (mSeq (mIf (mBool (m2 (fEq false) (mAny 1) (mC (.int 2)))) (mFor (mRng (mCons (mProp aG r_p_size (mFro 0)) (mNil))) (stN 4) (mFor (mRng (mCons (mProp aG r_p_size (mFro 0)) (mNil))) (stN 5) (mIf (mBool (mCall 3 r_is_eight (mCons (mFro 0) (mCons (mFro 4) (mCons (mFro 5) (mNil)))))) (mRet (mTup (mCons (mFro 1) (mCons (mC (.str "eight")) (mCons (mFro 4) (mCons (mFro 5) (mNil))))))) (mNext)))) (mNext)) (mRet (mC .non))))
def r_entry_for : List D → Option D := runD 6 mentry_for
section
variable {P : Program} {w : World} {K : PySem.W.Frag} {mg : Str → Option Value} {base : Heap}
theorem ok_entry_for {f : Addr} {fd : FuncData} (F : Fun K "entry_for" "entry_for" sentry_for f fd) (F_greatest_power : Own P w K mg base 3 "greatest_power" 2 r_greatest_power) (F_is_eight : Own P w K mg base 4 "is_eight" 3 r_is_eight) (F_order_of : Own P w K mg base 1 "order_of" 2 r_order_of) (Pr_all_products : OwnProp P w K mg base 1 aG "all_products" r_p_all_products) (Pr_size : OwnProp P w K mg base 1 aG "size" r_p_size) (z_range : mg "range" = none) : FnOk P w K mg base CX0 5 f fd ["group", "prime"] (spD K 2 r_entry_for) := by
  have sc := scentry_for
  refine F.ok sc (fun vs H Q E h => spD_len h) (fun cdv A outer s H vs Q E hr h => ?_)
  refine ⟨tSeq (tAsg (tCall (spD K 2 r_greatest_power) [] E0 (tCons (tVar 0) (tCons (tVar 1) (tNil)))) (gName 2)) (tSeq (tFor (iRng1 (tCons (tProp aG (spD K 1 r_p_size) [] E0 (tVar 0)) (tNil))) (gName 3) (tIfS (tTest (tOp (rEqD K) (tCall (spD K 2 r_order_of) [] E0 (tCons (tProp aG (spD K 1 r_p_all_products) [] E0 (tVar 0)) (tCons (tVar 3) (tNil)))) (tVar 2))) (tRet (tTup (tCons (tVar 1) (tCons (tC (.str "round")) (tCons (tVar 3) (tNil)))))) (tNext))) (tSeq (tIfS (tTest (tOp (rEqD K) (tVar 1) (tC (.int 2)))) (tFor (iRng1 (tCons (tProp aG (spD K 1 r_p_size) [] E0 (tVar 0)) (tNil))) (gName 4) (tFor (iRng1 (tCons (tProp aG (spD K 1 r_p_size) [] E0 (tVar 0)) (tNil))) (gName 5) (tIfS (tB (tCall (spD K 3 r_is_eight) [] E0 (tCons (tVar 0) (tCons (tVar 4) (tCons (tVar 5) (tNil)))))) (tRet (tTup (tCons (tVar 1) (tCons (tC (.str "eight")) (tCons (tVar 4) (tCons (tVar 5) (tNil))))))) (tNext)))) (tNext)) (tRet (tC .non)))), pss_cons (ps_set (i := 2) sc.nd rfl (.inl rfl) (pe_call F_greatest_power.F (hr.mono (by decide)) rfl F_greatest_power.g F_greatest_power.k F_greatest_power.b .nil pass0 (pa_cons (pv 0) (pa_cons (pv 1) (pa_nil))))) (pss_cons (ps_for PassesOwn.never rfl (pi_range1 rfl z_range (pa_cons (pe_prop (pv 0) Pr_size.c Pr_size.h Pr_size.F (hr.mono (by decide)) Pr_size.b .nil pass0 (by rfl)) (pa_nil))) (pg_name (i := 3) sc.nd rfl (.inl rfl)) (pss_one (ps_if (pt_cmpR (op_eqD (hu64 hr)) (pe_call F_order_of.F (hr.mono (by decide)) rfl F_order_of.g F_order_of.k F_order_of.b .nil pass0 (pa_cons (pe_prop (pv 0) Pr_all_products.c Pr_all_products.h Pr_all_products.F (hr.mono (by decide)) Pr_all_products.b .nil pass0 (by rfl)) (pa_cons (pv 3) (pa_nil)))) (pv 2) (nomark _)) (pss_one (ps_ret (pe_tup (pa_cons (pv 1) (pa_cons (pe_str) (pa_cons (pv 3) (pa_nil))))))) (pss_nil)))) (pss_cons (ps_if (pt_cmpR (op_eqD (hu64 hr)) (pv 1) (pe_int) (nomark _)) (pss_one (ps_for PassesOwn.never rfl (pi_range1 rfl z_range (pa_cons (pe_prop (pv 0) Pr_size.c Pr_size.h Pr_size.F (hr.mono (by decide)) Pr_size.b .nil pass0 (by rfl)) (pa_nil))) (pg_name (i := 4) sc.nd rfl (.inl rfl)) (pss_one (ps_for PassesOwn.never rfl (pi_range1 rfl z_range (pa_cons (pe_prop (pv 0) Pr_size.c Pr_size.h Pr_size.F (hr.mono (by decide)) Pr_size.b .nil pass0 (by rfl)) (pa_nil))) (pg_name (i := 5) sc.nd rfl (.inl rfl)) (pss_one (ps_if (pt_val (pe_call F_is_eight.F (hr.mono (by decide)) rfl F_is_eight.g F_is_eight.k F_is_eight.b .nil pass0 (pa_cons (pv 0) (pa_cons (pv 4) (pa_cons (pv 5) (pa_nil))))) (fun _ => rfl)) (pss_one (ps_ret (pe_tup (pa_cons (pv 1) (pa_cons (pe_str) (pa_cons (pv 4) (pa_cons (pv 5) (pa_nil)))))))) (pss_nil))))))) (pss_nil)) (pss_one (ps_ret (pe_non))))), ?_⟩
  exact body_end (m := mentry_for) h (fun F0 H0 => sx_seq (sx_asg (ex_call (ax_cons (ex_var 0) (ax_cons (ex_var 1) (ax_nil)))) (gx_name 2)) (sx_seq (sx_for (wx_range1 (ab_cons ((ex_prop (ex_var 0)).b) (ab_nil)) (mCons_len (mNil_len))) (gx_name 3) (sx_if (tx_test (ex_op op_eqB ((ex_call (ax_cons (ex_prop (ex_var 0)) (ax_cons (ex_var 3) (ax_nil)))).b) (bx_var 2)).b) (sx_ret (ex_tup (ax_cons (ex_var 1) (ax_cons (ex_str "round") (ax_cons (ex_var 3) (ax_nil)))))) (sx_next))) (sx_seq (sx_if (tx_test (ex_op op_eqB (bx_var 1) ((ex_int 2).b)).b) (sx_for (wx_range1 (ab_cons ((ex_prop (ex_var 0)).b) (ab_nil)) (mCons_len (mNil_len))) (gx_name 4) (sx_for (wx_range1 (ab_cons ((ex_prop (ex_var 0)).b) (ab_nil)) (mCons_len (mNil_len))) (gx_name 5) (sx_if (tx_b ((ex_call (ax_cons (ex_var 0) (ax_cons (ex_var 4) (ax_cons (ex_var 5) (ax_nil))))).b)) (sx_ret (ex_tup (ax_cons (ex_var 1) (ax_cons (ex_str "eight") (ax_cons (ex_var 4) (ax_cons (ex_var 5) (ax_nil))))))) (sx_next)))) (sx_next)) (sx_ret (ex_non)))))
end
abbrev splain_paper : Stmt := top 53
theorem scplain_paper : FnScope ["group", "prime", "entries"] ["group"] (defScope splain_paper) := ⟨rfl, rfl, rfl, by decide +kernel, rfl, by decide +kernel, by decide +kernel⟩
def mplain_paper : M Fl := mSeq (mAsg (mLc [1] (mItL (mCall 1 r_primes_of (mCons (mProp aG r_p_size (mFro 0)) (mNil)))) (stN 1) (fun _ => some true) (mCall 2 r_entry_for (mCons (mFro 0) (mCons (mFro 1) (mNil))))) (stN 2)) (mRet (mIfE (mBool (m2 (fIn false) (mC .non) (mAny 2))) (mC .non) (mB (f1 fun d => (lstD d).map D.tup) (mCons (mAny 2) (mNil)))))
def r_plain_paper : List D → Option D := runD 3 mplain_paper
section
variable {P : Program} {w : World} {K : PySem.W.Frag} {mg : Str → Option Value} {base : Heap}
theorem ok_plain_paper {f : Addr} {fd : FuncData} (F : Fun K "plain_paper" "plain_paper" splain_paper f fd) (F_entry_for : Own P w K mg base 5 "entry_for" 2 r_entry_for) (F_primes_of : Own P w K mg base 1 "primes_of" 1 r_primes_of) (Pr_size : OwnProp P w K mg base 1 aG "size" r_p_size) (z_tuple : mg "tuple" = none) : FnOk P w K mg base CX0 6 f fd ["group"] (spD K 1 r_plain_paper) := by
  have sc := scplain_paper
  refine F.ok sc (fun vs H Q E h => spD_len h) (fun cdv A outer s H vs Q E hr h => ?_)
  refine ⟨tSeq (tAsg (tLc (iList K (tCall (spD K 1 r_primes_of) [] E0 (tCons (tProp aG (spD K 1 r_p_size) [] E0 (tVar 0)) (tNil)))) (gName 1) (tYes) (tCall (spD K 2 r_entry_for) [] E0 (tCons (tVar 0) (tCons (tVar 1) (tNil)))) [1]) (gName 2)) (tRet (tIf (tTest (tOp (rInD K) (tC .non) (tVar 2))) (tC .non) (tCB (rTupQ K) (tCons (tVar 2) (tNil))))), pss_cons (ps_setLc (i := 2) (own := [("prime", 1)]) rfl sc.nd rfl rfl (sw_true rfl rfl rfl (by decide +kernel)) (pi_list (pe_call F_primes_of.F (hr.mono (by decide)) rfl F_primes_of.g F_primes_of.k F_primes_of.b .nil pass0 (pa_cons (pe_prop (pv 0) Pr_size.c Pr_size.h Pr_size.F (hr.mono (by decide)) Pr_size.b .nil pass0 (by rfl)) (pa_nil)))) (blkOk_by (by rfl)) (fun _ _ _ _ _ => pg_name (i := 1) sc.nd rfl (.inl rfl)) (fun _ _ _ _ _ => pts_nil) (fun _ _ _ _ _ => pe_call F_entry_for.F (hr.mono (by decide)) rfl F_entry_for.g F_entry_for.k F_entry_for.b .nil pass0 (pa_cons (pv 0) (pa_cons (pv 1) (pa_nil))))) (pss_one (ps_ret (pe_ifExp (pt_cmpR (op_inD (hu65 hr)) (pe_non) (pv 2) (by rfl)) (pe_non) (pe_callTy hTupQ rfl z_tuple (by decide +kernel) (pa_cons (pv 2) (pa_nil)))))), ?_⟩
  exact body_end (m := mplain_paper) h (fun F0 H0 => sx_seq (sx_asg ((ox_lc (wx_list (ex_call (ax_cons (ex_prop (ex_var 0)) (ax_nil)))) (gw_name 1) (tx_yes) (ex_call (ax_cons (ex_var 0) (ax_cons (ex_var 1) (ax_nil))))).x) (gx_name 2)) (sx_ret (ex_if (tx_test (ex_op op_inB ((ex_non).b) (bx_var 2)).b) (ex_non) (ex_cb bTupQ (ab_cons (bx_var 2) (ab_nil))))))
end
abbrev sturns_of_part : Stmt := top 56
theorem scturns_of_part : FnScope ["group", "prime", "part"] ["group", "prime"] (defScope sturns_of_part) := ⟨rfl, rfl, rfl, by decide +kernel, rfl, by decide +kernel, by decide +kernel⟩
def mturns_of_part : M Fl := mSeq (mAsg (mCall 2 r_prime_part (mCons (mFro 0) (mCons (mFro 1) (mNil)))) (stN 2)) (mRet (m2 (fI cDiv fun i j => i / j) (mB (f1 fLen) (mCons (mCall 2 r_normalizer_of (mCons (mFro 0) (mCons (mFro 2) (mNil)))) (mNil))) (mB (f1 fLen) (mCons (mCall 2 r_centralizer_of (mCons (mFro 0) (mCons (mFro 2) (mNil)))) (mNil)))))
def r_turns_of_part : List D → Option D := runD 3 mturns_of_part
section
variable {P : Program} {w : World} {K : PySem.W.Frag} {mg : Str → Option Value} {base : Heap}
theorem ok_turns_of_part {f : Addr} {fd : FuncData} (F : Fun K "turns_of_part" "turns_of_part" sturns_of_part f fd) (F_centralizer_of : Own P w K mg base 7 "centralizer_of" 2 r_centralizer_of) (F_normalizer_of : Own P w K mg base 7 "normalizer_of" 2 r_normalizer_of) (F_prime_part : Own P w K mg base 5 "prime_part" 2 r_prime_part) (z_len : mg "len" = none) : FnOk P w K mg base CX0 8 f fd ["group", "prime"] (spD K 2 r_turns_of_part) := by
  have sc := scturns_of_part
  refine F.ok sc (fun vs H Q E h => spD_len h) (fun cdv A outer s H vs Q E hr h => ?_)
  refine ⟨tSeq (tAsg (tCall (spD K 2 r_prime_part) [] E0 (tCons (tVar 0) (tCons (tVar 1) (tNil)))) (gName 2)) (tRet (tOp (rI CDiv fun i j => V.int (i / j)) (tCB (rLenQ K) (tCons (tCall (spD K 2 r_normalizer_of) [] E0 (tCons (tVar 0) (tCons (tVar 2) (tNil)))) (tNil))) (tCB (rLenQ K) (tCons (tCall (spD K 2 r_centralizer_of) [] E0 (tCons (tVar 0) (tCons (tVar 2) (tNil)))) (tNil))))), pss_cons (ps_set (i := 2) sc.nd rfl (.inl rfl) (pe_call F_prime_part.F (hr.mono (by decide)) rfl F_prime_part.g F_prime_part.k F_prime_part.b .nil pass0 (pa_cons (pv 0) (pa_cons (pv 1) (pa_nil))))) (pss_one (ps_ret (pe_op op_fdiv (pe_callB hLenQ rfl z_len (by decide +kernel) (pa_cons (pe_call F_normalizer_of.F (hr.mono (by decide)) rfl F_normalizer_of.g F_normalizer_of.k F_normalizer_of.b .nil pass0 (pa_cons (pv 0) (pa_cons (pv 2) (pa_nil)))) (pa_nil))) (pe_callB hLenQ rfl z_len (by decide +kernel) (pa_cons (pe_call F_centralizer_of.F (hr.mono (by decide)) rfl F_centralizer_of.g F_centralizer_of.k F_centralizer_of.b .nil pass0 (pa_cons (pv 0) (pa_cons (pv 2) (pa_nil)))) (pa_nil)))))), ?_⟩
  exact body_end (m := mturns_of_part) h (fun F0 H0 => sx_seq (sx_asg (ex_call (ax_cons (ex_var 0) (ax_cons (ex_var 1) (ax_nil)))) (gx_name 2)) (sx_ret (ex_op (op_rI cDiv_ok) ((ex_cb bLenQ (ab_cons ((ex_call (ax_cons (ex_var 0) (ax_cons (ex_var 2) (ax_nil)))).b) (ab_nil))).b) ((ex_cb bLenQ (ab_cons ((ex_call (ax_cons (ex_var 0) (ax_cons (ex_var 2) (ax_nil)))).b) (ab_nil))).b))))
end
abbrev ssizes_for : Stmt := top 60
theorem scsizes_for : FnScope ["group", "entry", "half", "prime", "power", "size", "turns"] ["group", "entry", "half"] (defScope ssizes_for) := ⟨rfl, rfl, rfl, by decide +kernel, rfl, by decide +kernel, by decide +kernel⟩
def msizes_for : M Fl := mSeq (mAsg (mTup (mCons (m2 fIx (mAny 1) (mC (.int 0))) (mCons (mCall 2 r_greatest_power (mCons (mFro 0) (mCons (m2 fIx (mAny 1) (mC (.int 0))) (mNil)))) (mNil)))) (stTup 2 (stCons (stN 3) (stCons (stN 4) (stNil))))) (mSeq (mIf (mAnd (mBool (m2 (fEq false) (m2 fIx (mAny 1) (mC (.int 1))) (mC (.str "eight")))) (mTru (m2 (fI cPos fun i j => i % j) (mAny 2) (mC (.int 2))))) (mStop) (mNext)) (mSeq (mAsg (mIfE (mBool (m2 (fB fun i j => decide (j < i)) (mAny 3) (mC (.int 2)))) (mCall 2 r_turns_of_part (mCons (mFro 0) (mCons (mFro 3) (mNil)))) (mC (.int 1))) (stN 6)) (mRet (mIfE (mTru (m2 (fI cPos fun i j => i % j) (mAny 2) (mAny 6))) (mLst (mNil)) (mLst (mCons (mFro 4) (mNil)))))))
def r_sizes_for : List D → Option D := runD 7 msizes_for
section
variable {P : Program} {w : World} {K : PySem.W.Frag} {mg : Str → Option Value} {base : Heap}
theorem ok_sizes_for {f : Addr} {fd : FuncData} (F : Fun K "sizes_for" "sizes_for" ssizes_for f fd) (F_greatest_power : Own P w K mg base 3 "greatest_power" 2 r_greatest_power) (F_turns_of_part : Own P w K mg base 8 "turns_of_part" 2 r_turns_of_part) : FnOk P w K mg base CX0 9 f fd ["group", "entry", "half"] (spD K 3 r_sizes_for) := by
  have sc := scsizes_for
  refine F.ok sc (fun vs H Q E h => spD_len h) (fun cdv A outer s H vs Q E hr h => ?_)
  refine ⟨tSeq (tAsg (tTup (tCons (tOp (rIx K) (tVar 1) (tC (.int 0))) (tCons (tCall (spD K 2 r_greatest_power) [] E0 (tCons (tVar 0) (tCons (tOp (rIx K) (tVar 1) (tC (.int 0))) (tNil)))) (tNil)))) (gTup K 2 (gCons (gName 3) (gCons (gName 4) (gNil))))) (tSeq (tIfS (tAnd (tTest (tOp (rEqD K) (tOp (rIx K) (tVar 1) (tC (.int 1))) (tC (.str "eight")))) (fun σ H Q => (tOp (rI (fun _ j => 0 < j) fun i j => V.int (i % j)) (tVar 2) (tC (.int 2))) σ H fun x H' => ∃ k, TruV K x H' k ∧ Q k H')) (tNever) (tNext)) (tSeq (tAsg (tIf (tTest (tOp (rI0 fun i j => V.bl (decide (j < i))) (tVar 3) (tC (.int 2)))) (tCall (spD K 2 r_turns_of_part) [] E0 (tCons (tVar 0) (tCons (tVar 3) (tNil)))) (tC (.int 1))) (gName 6)) (tRet (tIf (fun σ H Q => (tOp (rI (fun _ j => 0 < j) fun i j => V.int (i % j)) (tVar 2) (tVar 6)) σ H fun x H' => ∃ k, TruV K x H' k ∧ Q k H') (tLst (tNil)) (tLst (tCons (tVar 4) (tNil))))))), pss_cons (ps_asg (pe_tup (pa_cons (pe_ix ix_seq (pv 1) (pe_int) (fun _ _ => rfl)) (pa_cons (pe_call F_greatest_power.F (hr.mono (by decide)) rfl F_greatest_power.g F_greatest_power.k F_greatest_power.b .nil pass0 (pa_cons (pv 0) (pa_cons (pe_ix ix_seq (pv 1) (pe_int) (fun _ _ => rfl)) (pa_nil)))) (pa_nil)))) (pg_tup rfl (pgs_cons (pg_name (i := 3) sc.nd rfl (.inl rfl)) (pgs_cons (pg_name (i := 4) sc.nd rfl (.inr rfl)) (pgs_nil))))) (pss_cons (ps_if (PW.pt (pw_and (pt_cmpR (op_eqD (hu64 hr)) (pe_ix ix_seq (pv 1) (pe_int) (fun _ _ => rfl)) (pe_str) (nomark _)) (pw_and1 (pt_truth (pe_op op_mod (pv 2) (pe_int)) (fun _ => rfl))))) (pss_one (ps_never)) (pss_nil)) (pss_cons (ps_set (i := 6) sc.nd rfl (.inl rfl) (pe_ifExp (pt_cmpR op_gt (pv 3) (pe_int) (nomark _)) (pe_call F_turns_of_part.F (hr.mono (by decide)) rfl F_turns_of_part.g F_turns_of_part.k F_turns_of_part.b .nil pass0 (pa_cons (pv 0) (pa_cons (pv 3) (pa_nil)))) (pe_int))) (pss_one (ps_ret (pe_ifExp (pt_truth (pe_op op_mod (pv 2) (pv 6)) (fun _ => rfl)) (pe_lst (pa_nil)) (pe_lst (pa_cons (pv 4) (pa_nil)))))))), ?_⟩
  exact body_end (m := msizes_for) h (fun F0 H0 => sx_seq (sx_asg (ex_tup (ax_cons (ex_ix (bx_var 1) ((ex_int 0).b)) (ax_cons (ex_call (ax_cons (ex_var 0) (ax_cons (ex_ix (bx_var 1) ((ex_int 0).b)) (ax_nil)))) (ax_nil)))) (gx_tup (gsx_cons (gx_name 3) (gsx_cons (gx_name 4) (gsx_nil))))) (sx_seq (sx_if (tx_and (tx_test (ex_op op_eqB ((ex_ix (bx_var 1) ((ex_int 1).b)).b) ((ex_str "eight").b)).b) (tx_tru ((ex_op (op_rI cPos_ok) (bx_var 2) ((ex_int 2).b)).b))) (sx_never) (sx_next)) (sx_seq (sx_asg (ex_if (tx_test (ex_op op_rB (bx_var 3) ((ex_int 2).b)).b) (ex_call (ax_cons (ex_var 0) (ax_cons (ex_var 3) (ax_nil)))) (ex_int 1)) (gx_name 6)) (sx_ret (ex_if (tx_tru ((ex_op (op_rI cPos_ok) (bx_var 2) (bx_var 6)).b)) ((ox_lst (ax_nil)).x) ((ox_lst (ax_cons (ex_var 4) (ax_nil))).x))))))
end
abbrev schain_of : Stmt := top 44
theorem scchain_of : FnScope ["sizes", "chain", "low", "high", "size"] ["sizes"] (defScope schain_of) := ⟨rfl, rfl, rfl, by decide +kernel, rfl, by decide +kernel, by decide +kernel⟩
def mchain_of : M Fl := mSeq (mOwn 1 (mB (f1 fun d => (seqD d).map D.lst) (mCons (mAny 0) (mNil)))) (mSeq (mFor (mRng (mCons (mB (f1 fLen) (mCons (mAny 1) (mNil))) (mNil))) (stN 2) (mFor (mRng (mCons (m2 (fI (fun _ _ => true) fun i j => i + j) (mAny 2) (mC (.int 1))) (mCons (mB (f1 fLen) (mCons (mAny 1) (mNil))) (mNil)))) (stN 3) (mPut2 1 2 3 (mB (f2 fGcd) (mCons (m2 fIx (mAny 1) (mAny 2)) (mCons (m2 fIx (mAny 1) (mAny 3)) (mNil)))) (mB (f2 fLcm) (mCons (m2 fIx (mAny 1) (mAny 2)) (mCons (m2 fIx (mAny 1) (mAny 3)) (mNil))))))) ((fun δ => mRet (mB (f1 fun d => (lstD d).map D.tup) (mCons (mLc [4] (mItL (mFro 1)) (stN 4) (mBool (m2 (fB fun i j => decide (j < i)) (mAny 4) (mC (.int 1)))) (mFro 4)) (mNil))) (frz 1 δ))))
def r_chain_of : List D → Option D := runD 5 mchain_of
section
variable {P : Program} {w : World} {K : PySem.W.Frag} {mg : Str → Option Value} {base : Heap}
theorem ok_chain_of {f : Addr} {fd : FuncData} (F : Fun K "chain_of" "chain_of" schain_of f fd) (g_gcd : mg "gcd" = some (.builtin "math.gcd")) (g_lcm : mg "lcm" = some (.builtin "math.lcm")) (z_len : mg "len" = none) (z_list : mg "list" = none) (z_range : mg "range" = none) (z_tuple : mg "tuple" = none) : FnOk P w K mg base CX0 1 f fd ["sizes"] (spD K 1 r_chain_of) := by
  have sc := scchain_of
  refine F.ok sc (fun vs H Q E h => spD_len h) (fun cdv A outer s H vs Q E hr h => ?_)
  refine ⟨tSeq (tAsg (tCB (rLstQ K) (tCons (tVar 0) (tNil))) (gName 1)) (tSeq (tFor (iRng1 (tCons (tCB (rLenQ K) (tCons (tVar 1) (tNil))) (tNil))) (gName 2) (tFor (iRng2 (tCons (tOp (rI0 fun i j => V.int (i + j)) (tVar 2) (tC (.int 1))) (tCons (tCB (rLenQ K) (tCons (tVar 1) (tNil))) (tNil)))) (gName 3) (tAsg (tTup (tCons (tCB rGcd (tCons (tOp (rIx K) (tVar 1) (tVar 2)) (tCons (tOp (rIx K) (tVar 1) (tVar 3)) (tNil)))) (tCons (tCB rLcm (tCons (tOp (rIx K) (tVar 1) (tVar 2)) (tCons (tOp (rIx K) (tVar 1) (tVar 3)) (tNil)))) tNil))) (gTup K 2 (gCons (gSub (tVar 1) (tVar 2) rSetL) (gCons (gSub (tVar 1) (tVar 3) rSetL) gNil)))))) (tRet (tCB (rTupQ K) (tCons (tLc (iList K (tVar 1)) (gName 4) (tTest (tOp (rI0 fun i j => V.bl (decide (j < i))) (tVar 4) (tC (.int 1)))) (tVar 4) [4]) (tNil))))), pss_cons (ps_set (i := 1) sc.nd rfl (.inl rfl) (pe_callTy hLstQ rfl z_list (by decide +kernel) (pa_cons (pv 0) (pa_nil)))) (pss_cons (ps_for PassesOwn.never rfl (pi_range1 rfl z_range (pa_cons (pe_callB hLenQ rfl z_len (by decide +kernel) (pa_cons (pv 1) (pa_nil))) (pa_nil))) (pg_name (i := 2) sc.nd rfl (.inl rfl)) (pss_one (ps_for PassesOwn.never rfl (pi_range2 rfl z_range (pa_cons (pe_op op_add (pv 2) (pe_int)) (pa_cons (pe_callB hLenQ rfl z_len (by decide +kernel) (pa_cons (pv 1) (pa_nil))) (pa_nil)))) (pg_name (i := 3) sc.nd rfl (.inl rfl)) (pss_one (ps_asg (pe_tup (pa_cons (pe_callBfun cr_gcd rfl g_gcd (pa_cons (pe_ix ix_seq (pv 1) (pv 2) (fun _ _ => rfl)) (pa_cons (pe_ix ix_seq (pv 1) (pv 3) (fun _ _ => rfl)) (pa_nil)))) (pa_cons (pe_callBfun call_lcm rfl g_lcm (pa_cons (pe_ix ix_seq (pv 1) (pv 2) (fun _ _ => rfl)) (pa_cons (pe_ix ix_seq (pv 1) (pv 3) (fun _ _ => rfl)) (pa_nil)))) pa_nil))) (pg_tup rfl (pgs_cons (pg_sub (pv 1) (pv 2) set_list) (pgs_cons (pg_sub (pv 1) (pv 3) set_list) pgs_nil)))))))) (pss_one (ps_ret (pe_callTy hTupQ rfl z_tuple (by decide +kernel) (pa_cons (pe_lc (own := [("size", 4)]) rfl sc.nd (pi_list (pv 1)) (blkOk_by (by rfl)) (fun _ _ _ _ _ => pg_name (i := 4) sc.nd rfl (.inl rfl)) (fun _ _ _ _ _ => pts_one (pt_cmpR op_gt (pv 4) (pe_int) (nomark _))) (fun _ _ _ _ _ => pv 4)) (pa_nil)))))), ?_⟩
  exact body_end (m := mchain_of) h (fun F0 H0 => sx_seq (sx_own 1 (ox_cb bLstQ (ab_cons (bx_var 0) (ab_nil)))) (sx_seq (sx_for (wx_range1 (ab_cons ((ex_cb bLenQ (ab_cons (bx_var 1) (ab_nil))).b) (ab_nil)) (mCons_len (mNil_len))) (gx_name 2) (sx_for (wx_range2 (ab_cons ((ex_op (op_rI0) (bx_var 2) ((ex_int 1).b)).b) (ab_cons ((ex_cb bLenQ (ab_cons (bx_var 1) (ab_nil))).b) (ab_nil))) (mCons_len (mCons_len (mNil_len)))) (gx_name 3) (sx_put2 1 2 3 (ex_cb bGcd (ab_cons ((ex_ix (bx_var 1) (bx_var 2)).b) (ab_cons ((ex_ix (bx_var 1) (bx_var 3)).b) (ab_nil)))) (ex_cb bLcm (ab_cons ((ex_ix (bx_var 1) (bx_var 2)).b) (ab_cons ((ex_ix (bx_var 1) (bx_var 3)).b) (ab_nil))))))) (sx_frz 1 (sx_ret (ex_cb bTupQ (ab_cons ((ox_lc (wx_list (ex_var 1)) (gw_name 4) (tx_test (ex_op op_rB (bx_var 4) ((ex_int 1).b)).b) (ex_var 4)).b) (ab_nil)))))))
end
abbrev slaw_round_moves : Stmt := top 67
theorem sclaw_round_moves : FnScope ["_law_size", "_law_at"] ["_law_size"] (defScope slaw_round_moves) := ⟨rfl, rfl, rfl, by decide +kernel, rfl, by decide +kernel, by decide +kernel⟩
def mlaw_round_moves : M Fl := mRet (mTup (mCons (mB (f1 fun d => (lstD d).map D.tup) (mCons (mLc [1] (mRng (mCons (mAny 0) (mNil))) (stN 1) (fun _ => some true) (m2 (fI cPos fun i j => i % j) (mB (f1 fInt1) (mCons (m2 (fI (fun _ _ => true) fun i j => i + j) (mAny 1) (mC (.int 1))) (mNil))) (mAny 0))) (mNil))) (mNil)))
def r_law_round_moves : List D → Option D := runD 2 mlaw_round_moves
section
variable {P : Program} {w : World} {K : PySem.W.Frag} {mg : Str → Option Value} {base : Heap}
theorem ok_law_round_moves {f : Addr} {fd : FuncData} (F : Fun K "_law_round_moves" "_law_round_moves" slaw_round_moves f fd) (z_int : mg "int" = none) (z_range : mg "range" = none) (z_tuple : mg "tuple" = none) : FnOk P w K mg base CX0 1 f fd ["_law_size"] (spD K 1 r_law_round_moves) := by
  have sc := sclaw_round_moves
  refine F.ok sc (fun vs H Q E h => spD_len h) (fun cdv A outer s H vs Q E hr h => ?_)
  refine ⟨tRet (tTup (tCons (tCB (rTupQ K) (tCons (tLc (iRng1 (tCons (tVar 0) (tNil))) (gName 1) (tYes) (tOp (rI (fun _ j => 0 < j) fun i j => V.int (i % j)) (tCB (rInt1) (tCons (tOp (rI0 fun i j => V.int (i + j)) (tVar 1) (tC (.int 1))) (tNil))) (tVar 0)) [1]) (tNil))) (tNil))), pss_one (ps_ret (pe_tup (pa_cons (pe_callTy hTupQ rfl z_tuple (by decide +kernel) (pa_cons (pe_lc (own := [("_law_at", 1)]) rfl sc.nd (pi_range1 rfl z_range (pa_cons (pv 0) (pa_nil))) (blkOk_by (by rfl)) (fun _ _ _ _ _ => pg_name (i := 1) sc.nd rfl (.inl rfl)) (fun _ _ _ _ _ => pts_nil) (fun _ _ _ _ _ => pe_op op_mod (pe_callTy hInt1 rfl z_int (by decide +kernel) (pa_cons (pe_op op_add (pv 1) (pe_int)) (pa_nil))) (pv 0))) (pa_nil))) (pa_nil)))), ?_⟩
  exact body_end (m := mlaw_round_moves) h (fun F0 H0 => sx_ret (ex_tup (ax_cons (ex_cb bTupQ (ab_cons ((ox_lc (wx_range1 (ab_cons (bx_var 0) (ab_nil)) (mCons_len (mNil_len))) (gw_name 1) (tx_yes) (ex_op (op_rI cPos_ok) ((ex_cb bInt1 (ab_cons ((ex_op (op_rI0) (bx_var 1) ((ex_int 1).b)).b) (ab_nil))).b) (bx_var 0))).b) (ab_nil))) (ax_nil))))
end
abbrev slaw_ready_moves : Stmt := top 68
theorem sclaw_ready_moves : FnScope ["_law_size", "_law_found"] [] (defScope slaw_ready_moves) := ⟨rfl, rfl, rfl, by decide +kernel, rfl, by decide +kernel, by decide +kernel⟩
def mlaw_ready_moves : M Fl := mSeq (mOwn 1 (mB (f1 fDictK) (mCons (mLc [0] (mRng (mCons (mC (.int 1)) (mCons (mC (.int 9)) (mNil)))) (stN 0) (fun _ => some true) (mTup (mCons (m2 (fCatS) (mC (.str "c")) (mB (f1 fStr) (mCons (mAny 0) (mNil)))) (mCons (mCall 1 r_law_round_moves (mCons (mFro 0) (mNil))) (mNil))))) (mNil)))) (mSeq (mPut 1 (mC (.str "v4")) (mTup (mCons (mTup (mCons (mC (.int 1)) (mCons (mC (.int 0)) (mCons (mC (.int 2)) (mCons (mC (.int 3)) (mNil)))))) (mCons (mTup (mCons (mC (.int 0)) (mCons (mC (.int 1)) (mCons (mC (.int 3)) (mCons (mC (.int 2)) (mNil)))))) (mNil))))) (mSeq (mPut 1 (mC (.str "c2c4")) (mTup (mCons (mTup (mCons (mC (.int 1)) (mCons (mC (.int 0)) (mCons (mC (.int 2)) (mCons (mC (.int 3)) (mCons (mC (.int 4)) (mCons (mC (.int 5)) (mNil)))))))) (mCons (mTup (mCons (mC (.int 0)) (mCons (mC (.int 1)) (mCons (mC (.int 3)) (mCons (mC (.int 4)) (mCons (mC (.int 5)) (mCons (mC (.int 2)) (mNil)))))))) (mNil))))) (mSeq (mPut 1 (mC (.str "c3c3")) (mTup (mCons (mTup (mCons (mC (.int 1)) (mCons (mC (.int 2)) (mCons (mC (.int 0)) (mCons (mC (.int 3)) (mCons (mC (.int 4)) (mCons (mC (.int 5)) (mNil)))))))) (mCons (mTup (mCons (mC (.int 0)) (mCons (mC (.int 1)) (mCons (mC (.int 2)) (mCons (mC (.int 4)) (mCons (mC (.int 5)) (mCons (mC (.int 3)) (mNil)))))))) (mNil))))) (mSeq (mPut 1 (mC (.str "s3")) (mTup (mCons (mTup (mCons (mC (.int 1)) (mCons (mC (.int 0)) (mCons (mC (.int 2)) (mNil))))) (mCons (mTup (mCons (mC (.int 1)) (mCons (mC (.int 2)) (mCons (mC (.int 0)) (mNil))))) (mNil))))) (mSeq (mPut 1 (mC (.str "d4")) (mTup (mCons (mTup (mCons (mC (.int 1)) (mCons (mC (.int 2)) (mCons (mC (.int 3)) (mCons (mC (.int 0)) (mNil)))))) (mCons (mTup (mCons (mC (.int 0)) (mCons (mC (.int 3)) (mCons (mC (.int 2)) (mCons (mC (.int 1)) (mNil)))))) (mNil))))) (mSeq (mPut 1 (mC (.str "q8")) (mTup (mCons (mTup (mCons (mC (.int 1)) (mCons (mC (.int 4)) (mCons (mC (.int 3)) (mCons (mC (.int 6)) (mCons (mC (.int 5)) (mCons (mC (.int 0)) (mCons (mC (.int 7)) (mCons (mC (.int 2)) (mNil)))))))))) (mCons (mTup (mCons (mC (.int 2)) (mCons (mC (.int 7)) (mCons (mC (.int 4)) (mCons (mC (.int 1)) (mCons (mC (.int 6)) (mCons (mC (.int 3)) (mCons (mC (.int 0)) (mCons (mC (.int 5)) (mNil)))))))))) (mNil))))) (mSeq (mPut 1 (mC (.str "a4")) (mTup (mCons (mTup (mCons (mC (.int 1)) (mCons (mC (.int 2)) (mCons (mC (.int 0)) (mCons (mC (.int 3)) (mNil)))))) (mCons (mTup (mCons (mC (.int 1)) (mCons (mC (.int 0)) (mCons (mC (.int 3)) (mCons (mC (.int 2)) (mNil)))))) (mNil))))) (mSeq (mPut 1 (mC (.str "d5")) (mTup (mCons (mTup (mCons (mC (.int 1)) (mCons (mC (.int 2)) (mCons (mC (.int 3)) (mCons (mC (.int 4)) (mCons (mC (.int 0)) (mNil))))))) (mCons (mTup (mCons (mC (.int 0)) (mCons (mC (.int 4)) (mCons (mC (.int 3)) (mCons (mC (.int 2)) (mCons (mC (.int 1)) (mNil))))))) (mNil))))) (mPut 1 (mC (.str "d6")) (mTup (mCons (mTup (mCons (mC (.int 1)) (mCons (mC (.int 2)) (mCons (mC (.int 3)) (mCons (mC (.int 4)) (mCons (mC (.int 5)) (mCons (mC (.int 0)) (mNil)))))))) (mCons (mTup (mCons (mC (.int 0)) (mCons (mC (.int 5)) (mCons (mC (.int 4)) (mCons (mC (.int 3)) (mCons (mC (.int 2)) (mCons (mC (.int 1)) (mNil)))))))) (mNil)))))))))))))
def r_law_ready_moves : List D → Option D := runO 2 1 mlaw_ready_moves
section
variable {P : Program} {w : World} {K : PySem.W.Frag} {mg : Str → Option Value} {base : Heap}
theorem ok_law_ready_moves {f : Addr} {fd : FuncData} (F : Fun K "_law_ready_moves" "_law_ready_moves" slaw_ready_moves f fd) (F__law_round_moves : Own P w K mg base 1 "_law_round_moves" 1 r_law_round_moves) (z_dict : mg "dict" = none) (z_range : mg "range" = none) (z_str : mg "str" = none) : FnOk P w K mg base CX0 2 f fd [] (spO K 0 r_law_ready_moves) := by
  have sc := sclaw_ready_moves
  refine F.ok sc (fun vs H Q E h => spO_len h) (fun cdv A outer s H vs Q E hr h => ?_)
  refine ⟨tSeq (tAsg (tCB (rDictK K) (tCons (tLc (iRng2 (tCons (tC (.int 1)) (tCons (tC (.int 9)) (tNil)))) (gName 0) (tYes) (tTup (tCons (tOp (rCatS) (tC (.str "c")) (tCB (rStrI) (tCons (tVar 0) (tNil)))) (tCons (tCall (spD K 1 r_law_round_moves) [] E0 (tCons (tVar 0) (tNil))) (tNil)))) [0]) (tNil))) (gName 1)) (tSeq (sDPut (tVar 1) (tC (.str "v4")) (tTup (tCons (tTup (tCons (tC (.int 1)) (tCons (tC (.int 0)) (tCons (tC (.int 2)) (tCons (tC (.int 3)) (tNil)))))) (tCons (tTup (tCons (tC (.int 0)) (tCons (tC (.int 1)) (tCons (tC (.int 3)) (tCons (tC (.int 2)) (tNil)))))) (tNil))))) (tSeq (sDPut (tVar 1) (tC (.str "c2c4")) (tTup (tCons (tTup (tCons (tC (.int 1)) (tCons (tC (.int 0)) (tCons (tC (.int 2)) (tCons (tC (.int 3)) (tCons (tC (.int 4)) (tCons (tC (.int 5)) (tNil)))))))) (tCons (tTup (tCons (tC (.int 0)) (tCons (tC (.int 1)) (tCons (tC (.int 3)) (tCons (tC (.int 4)) (tCons (tC (.int 5)) (tCons (tC (.int 2)) (tNil)))))))) (tNil))))) (tSeq (sDPut (tVar 1) (tC (.str "c3c3")) (tTup (tCons (tTup (tCons (tC (.int 1)) (tCons (tC (.int 2)) (tCons (tC (.int 0)) (tCons (tC (.int 3)) (tCons (tC (.int 4)) (tCons (tC (.int 5)) (tNil)))))))) (tCons (tTup (tCons (tC (.int 0)) (tCons (tC (.int 1)) (tCons (tC (.int 2)) (tCons (tC (.int 4)) (tCons (tC (.int 5)) (tCons (tC (.int 3)) (tNil)))))))) (tNil))))) (tSeq (sDPut (tVar 1) (tC (.str "s3")) (tTup (tCons (tTup (tCons (tC (.int 1)) (tCons (tC (.int 0)) (tCons (tC (.int 2)) (tNil))))) (tCons (tTup (tCons (tC (.int 1)) (tCons (tC (.int 2)) (tCons (tC (.int 0)) (tNil))))) (tNil))))) (tSeq (sDPut (tVar 1) (tC (.str "d4")) (tTup (tCons (tTup (tCons (tC (.int 1)) (tCons (tC (.int 2)) (tCons (tC (.int 3)) (tCons (tC (.int 0)) (tNil)))))) (tCons (tTup (tCons (tC (.int 0)) (tCons (tC (.int 3)) (tCons (tC (.int 2)) (tCons (tC (.int 1)) (tNil)))))) (tNil))))) (tSeq (sDPut (tVar 1) (tC (.str "q8")) (tTup (tCons (tTup (tCons (tC (.int 1)) (tCons (tC (.int 4)) (tCons (tC (.int 3)) (tCons (tC (.int 6)) (tCons (tC (.int 5)) (tCons (tC (.int 0)) (tCons (tC (.int 7)) (tCons (tC (.int 2)) (tNil)))))))))) (tCons (tTup (tCons (tC (.int 2)) (tCons (tC (.int 7)) (tCons (tC (.int 4)) (tCons (tC (.int 1)) (tCons (tC (.int 6)) (tCons (tC (.int 3)) (tCons (tC (.int 0)) (tCons (tC (.int 5)) (tNil)))))))))) (tNil))))) (tSeq (sDPut (tVar 1) (tC (.str "a4")) (tTup (tCons (tTup (tCons (tC (.int 1)) (tCons (tC (.int 2)) (tCons (tC (.int 0)) (tCons (tC (.int 3)) (tNil)))))) (tCons (tTup (tCons (tC (.int 1)) (tCons (tC (.int 0)) (tCons (tC (.int 3)) (tCons (tC (.int 2)) (tNil)))))) (tNil))))) (tSeq (sDPut (tVar 1) (tC (.str "d5")) (tTup (tCons (tTup (tCons (tC (.int 1)) (tCons (tC (.int 2)) (tCons (tC (.int 3)) (tCons (tC (.int 4)) (tCons (tC (.int 0)) (tNil))))))) (tCons (tTup (tCons (tC (.int 0)) (tCons (tC (.int 4)) (tCons (tC (.int 3)) (tCons (tC (.int 2)) (tCons (tC (.int 1)) (tNil))))))) (tNil))))) (tSeq (sDPut (tVar 1) (tC (.str "d6")) (tTup (tCons (tTup (tCons (tC (.int 1)) (tCons (tC (.int 2)) (tCons (tC (.int 3)) (tCons (tC (.int 4)) (tCons (tC (.int 5)) (tCons (tC (.int 0)) (tNil)))))))) (tCons (tTup (tCons (tC (.int 0)) (tCons (tC (.int 5)) (tCons (tC (.int 4)) (tCons (tC (.int 3)) (tCons (tC (.int 2)) (tCons (tC (.int 1)) (tNil)))))))) (tNil))))) (tRet (tVar 1))))))))))), pss_cons (ps_set (i := 1) sc.nd rfl (.inl rfl) (pe_callTy (hDictK rfl) rfl z_dict (by decide +kernel) (pa_cons (pe_lc (own := [("_law_size", 0)]) rfl sc.nd (pi_range2 rfl z_range (pa_cons (pe_int) (pa_cons (pe_int) (pa_nil)))) (blkOk_by (by rfl)) (fun _ _ _ _ _ => pg_name (i := 0) sc.nd rfl (.inl rfl)) (fun _ _ _ _ _ => pts_nil) (fun _ _ _ _ _ => pe_tup (pa_cons (pe_op hCatS (pe_str) (pe_callTy hStrI rfl z_str (by decide +kernel) (pa_cons (pv 0) (pa_nil)))) (pa_cons (pe_call F__law_round_moves.F (hr.mono (by decide)) rfl F__law_round_moves.g F__law_round_moves.k F__law_round_moves.b .nil pass0 (pa_cons (pv 0) (pa_nil))) (pa_nil))))) (pa_nil)))) (pss_cons (ps_dput (hu1 hr) (pv 1) (pe_str) (pe_tup (pa_cons (pe_tup (pa_cons (pe_int) (pa_cons (pe_int) (pa_cons (pe_int) (pa_cons (pe_int) (pa_nil)))))) (pa_cons (pe_tup (pa_cons (pe_int) (pa_cons (pe_int) (pa_cons (pe_int) (pa_cons (pe_int) (pa_nil)))))) (pa_nil)))) rfl) (pss_cons (ps_dput (hu1 hr) (pv 1) (pe_str) (pe_tup (pa_cons (pe_tup (pa_cons (pe_int) (pa_cons (pe_int) (pa_cons (pe_int) (pa_cons (pe_int) (pa_cons (pe_int) (pa_cons (pe_int) (pa_nil)))))))) (pa_cons (pe_tup (pa_cons (pe_int) (pa_cons (pe_int) (pa_cons (pe_int) (pa_cons (pe_int) (pa_cons (pe_int) (pa_cons (pe_int) (pa_nil)))))))) (pa_nil)))) rfl) (pss_cons (ps_dput (hu1 hr) (pv 1) (pe_str) (pe_tup (pa_cons (pe_tup (pa_cons (pe_int) (pa_cons (pe_int) (pa_cons (pe_int) (pa_cons (pe_int) (pa_cons (pe_int) (pa_cons (pe_int) (pa_nil)))))))) (pa_cons (pe_tup (pa_cons (pe_int) (pa_cons (pe_int) (pa_cons (pe_int) (pa_cons (pe_int) (pa_cons (pe_int) (pa_cons (pe_int) (pa_nil)))))))) (pa_nil)))) rfl) (pss_cons (ps_dput (hu1 hr) (pv 1) (pe_str) (pe_tup (pa_cons (pe_tup (pa_cons (pe_int) (pa_cons (pe_int) (pa_cons (pe_int) (pa_nil))))) (pa_cons (pe_tup (pa_cons (pe_int) (pa_cons (pe_int) (pa_cons (pe_int) (pa_nil))))) (pa_nil)))) rfl) (pss_cons (ps_dput (hu1 hr) (pv 1) (pe_str) (pe_tup (pa_cons (pe_tup (pa_cons (pe_int) (pa_cons (pe_int) (pa_cons (pe_int) (pa_cons (pe_int) (pa_nil)))))) (pa_cons (pe_tup (pa_cons (pe_int) (pa_cons (pe_int) (pa_cons (pe_int) (pa_cons (pe_int) (pa_nil)))))) (pa_nil)))) rfl) (pss_cons (ps_dput (hu1 hr) (pv 1) (pe_str) (pe_tup (pa_cons (pe_tup (pa_cons (pe_int) (pa_cons (pe_int) (pa_cons (pe_int) (pa_cons (pe_int) (pa_cons (pe_int) (pa_cons (pe_int) (pa_cons (pe_int) (pa_cons (pe_int) (pa_nil)))))))))) (pa_cons (pe_tup (pa_cons (pe_int) (pa_cons (pe_int) (pa_cons (pe_int) (pa_cons (pe_int) (pa_cons (pe_int) (pa_cons (pe_int) (pa_cons (pe_int) (pa_cons (pe_int) (pa_nil)))))))))) (pa_nil)))) rfl) (pss_cons (ps_dput (hu1 hr) (pv 1) (pe_str) (pe_tup (pa_cons (pe_tup (pa_cons (pe_int) (pa_cons (pe_int) (pa_cons (pe_int) (pa_cons (pe_int) (pa_nil)))))) (pa_cons (pe_tup (pa_cons (pe_int) (pa_cons (pe_int) (pa_cons (pe_int) (pa_cons (pe_int) (pa_nil)))))) (pa_nil)))) rfl) (pss_cons (ps_dput (hu1 hr) (pv 1) (pe_str) (pe_tup (pa_cons (pe_tup (pa_cons (pe_int) (pa_cons (pe_int) (pa_cons (pe_int) (pa_cons (pe_int) (pa_cons (pe_int) (pa_nil))))))) (pa_cons (pe_tup (pa_cons (pe_int) (pa_cons (pe_int) (pa_cons (pe_int) (pa_cons (pe_int) (pa_cons (pe_int) (pa_nil))))))) (pa_nil)))) rfl) (pss_cons (ps_dput (hu1 hr) (pv 1) (pe_str) (pe_tup (pa_cons (pe_tup (pa_cons (pe_int) (pa_cons (pe_int) (pa_cons (pe_int) (pa_cons (pe_int) (pa_cons (pe_int) (pa_cons (pe_int) (pa_nil)))))))) (pa_cons (pe_tup (pa_cons (pe_int) (pa_cons (pe_int) (pa_cons (pe_int) (pa_cons (pe_int) (pa_cons (pe_int) (pa_cons (pe_int) (pa_nil)))))))) (pa_nil)))) rfl) (pss_one (ps_ret (pv 1)))))))))))), ?_⟩
  have E1 : tSeq (tSeq (tAsg (tCB (rDictK K) (tCons (tLc (iRng2 (tCons (tC (.int 1)) (tCons (tC (.int 9)) (tNil)))) (gName 0) (tYes) (tTup (tCons (tOp (rCatS) (tC (.str "c")) (tCB (rStrI) (tCons (tVar 0) (tNil)))) (tCons (tCall (spD K 1 r_law_round_moves) [] E0 (tCons (tVar 0) (tNil))) (tNil)))) [0]) (tNil))) (gName 1)) (tSeq (sDPut (tVar 1) (tC (.str "v4")) (tTup (tCons (tTup (tCons (tC (.int 1)) (tCons (tC (.int 0)) (tCons (tC (.int 2)) (tCons (tC (.int 3)) (tNil)))))) (tCons (tTup (tCons (tC (.int 0)) (tCons (tC (.int 1)) (tCons (tC (.int 3)) (tCons (tC (.int 2)) (tNil)))))) (tNil))))) (tSeq (sDPut (tVar 1) (tC (.str "c2c4")) (tTup (tCons (tTup (tCons (tC (.int 1)) (tCons (tC (.int 0)) (tCons (tC (.int 2)) (tCons (tC (.int 3)) (tCons (tC (.int 4)) (tCons (tC (.int 5)) (tNil)))))))) (tCons (tTup (tCons (tC (.int 0)) (tCons (tC (.int 1)) (tCons (tC (.int 3)) (tCons (tC (.int 4)) (tCons (tC (.int 5)) (tCons (tC (.int 2)) (tNil)))))))) (tNil))))) (tSeq (sDPut (tVar 1) (tC (.str "c3c3")) (tTup (tCons (tTup (tCons (tC (.int 1)) (tCons (tC (.int 2)) (tCons (tC (.int 0)) (tCons (tC (.int 3)) (tCons (tC (.int 4)) (tCons (tC (.int 5)) (tNil)))))))) (tCons (tTup (tCons (tC (.int 0)) (tCons (tC (.int 1)) (tCons (tC (.int 2)) (tCons (tC (.int 4)) (tCons (tC (.int 5)) (tCons (tC (.int 3)) (tNil)))))))) (tNil))))) (tSeq (sDPut (tVar 1) (tC (.str "s3")) (tTup (tCons (tTup (tCons (tC (.int 1)) (tCons (tC (.int 0)) (tCons (tC (.int 2)) (tNil))))) (tCons (tTup (tCons (tC (.int 1)) (tCons (tC (.int 2)) (tCons (tC (.int 0)) (tNil))))) (tNil))))) (tSeq (sDPut (tVar 1) (tC (.str "d4")) (tTup (tCons (tTup (tCons (tC (.int 1)) (tCons (tC (.int 2)) (tCons (tC (.int 3)) (tCons (tC (.int 0)) (tNil)))))) (tCons (tTup (tCons (tC (.int 0)) (tCons (tC (.int 3)) (tCons (tC (.int 2)) (tCons (tC (.int 1)) (tNil)))))) (tNil))))) (tSeq (sDPut (tVar 1) (tC (.str "q8")) (tTup (tCons (tTup (tCons (tC (.int 1)) (tCons (tC (.int 4)) (tCons (tC (.int 3)) (tCons (tC (.int 6)) (tCons (tC (.int 5)) (tCons (tC (.int 0)) (tCons (tC (.int 7)) (tCons (tC (.int 2)) (tNil)))))))))) (tCons (tTup (tCons (tC (.int 2)) (tCons (tC (.int 7)) (tCons (tC (.int 4)) (tCons (tC (.int 1)) (tCons (tC (.int 6)) (tCons (tC (.int 3)) (tCons (tC (.int 0)) (tCons (tC (.int 5)) (tNil)))))))))) (tNil))))) (tSeq (sDPut (tVar 1) (tC (.str "a4")) (tTup (tCons (tTup (tCons (tC (.int 1)) (tCons (tC (.int 2)) (tCons (tC (.int 0)) (tCons (tC (.int 3)) (tNil)))))) (tCons (tTup (tCons (tC (.int 1)) (tCons (tC (.int 0)) (tCons (tC (.int 3)) (tCons (tC (.int 2)) (tNil)))))) (tNil))))) (tSeq (sDPut (tVar 1) (tC (.str "d5")) (tTup (tCons (tTup (tCons (tC (.int 1)) (tCons (tC (.int 2)) (tCons (tC (.int 3)) (tCons (tC (.int 4)) (tCons (tC (.int 0)) (tNil))))))) (tCons (tTup (tCons (tC (.int 0)) (tCons (tC (.int 4)) (tCons (tC (.int 3)) (tCons (tC (.int 2)) (tCons (tC (.int 1)) (tNil))))))) (tNil))))) (sDPut (tVar 1) (tC (.str "d6")) (tTup (tCons (tTup (tCons (tC (.int 1)) (tCons (tC (.int 2)) (tCons (tC (.int 3)) (tCons (tC (.int 4)) (tCons (tC (.int 5)) (tCons (tC (.int 0)) (tNil)))))))) (tCons (tTup (tCons (tC (.int 0)) (tCons (tC (.int 5)) (tCons (tC (.int 4)) (tCons (tC (.int 3)) (tCons (tC (.int 2)) (tCons (tC (.int 1)) (tNil)))))))) (tNil)))))))))))))) (tRet (tVar 1)) = tSeq (tAsg (tCB (rDictK K) (tCons (tLc (iRng2 (tCons (tC (.int 1)) (tCons (tC (.int 9)) (tNil)))) (gName 0) (tYes) (tTup (tCons (tOp (rCatS) (tC (.str "c")) (tCB (rStrI) (tCons (tVar 0) (tNil)))) (tCons (tCall (spD K 1 r_law_round_moves) [] E0 (tCons (tVar 0) (tNil))) (tNil)))) [0]) (tNil))) (gName 1)) (tSeq (sDPut (tVar 1) (tC (.str "v4")) (tTup (tCons (tTup (tCons (tC (.int 1)) (tCons (tC (.int 0)) (tCons (tC (.int 2)) (tCons (tC (.int 3)) (tNil)))))) (tCons (tTup (tCons (tC (.int 0)) (tCons (tC (.int 1)) (tCons (tC (.int 3)) (tCons (tC (.int 2)) (tNil)))))) (tNil))))) (tSeq (sDPut (tVar 1) (tC (.str "c2c4")) (tTup (tCons (tTup (tCons (tC (.int 1)) (tCons (tC (.int 0)) (tCons (tC (.int 2)) (tCons (tC (.int 3)) (tCons (tC (.int 4)) (tCons (tC (.int 5)) (tNil)))))))) (tCons (tTup (tCons (tC (.int 0)) (tCons (tC (.int 1)) (tCons (tC (.int 3)) (tCons (tC (.int 4)) (tCons (tC (.int 5)) (tCons (tC (.int 2)) (tNil)))))))) (tNil))))) (tSeq (sDPut (tVar 1) (tC (.str "c3c3")) (tTup (tCons (tTup (tCons (tC (.int 1)) (tCons (tC (.int 2)) (tCons (tC (.int 0)) (tCons (tC (.int 3)) (tCons (tC (.int 4)) (tCons (tC (.int 5)) (tNil)))))))) (tCons (tTup (tCons (tC (.int 0)) (tCons (tC (.int 1)) (tCons (tC (.int 2)) (tCons (tC (.int 4)) (tCons (tC (.int 5)) (tCons (tC (.int 3)) (tNil)))))))) (tNil))))) (tSeq (sDPut (tVar 1) (tC (.str "s3")) (tTup (tCons (tTup (tCons (tC (.int 1)) (tCons (tC (.int 0)) (tCons (tC (.int 2)) (tNil))))) (tCons (tTup (tCons (tC (.int 1)) (tCons (tC (.int 2)) (tCons (tC (.int 0)) (tNil))))) (tNil))))) (tSeq (sDPut (tVar 1) (tC (.str "d4")) (tTup (tCons (tTup (tCons (tC (.int 1)) (tCons (tC (.int 2)) (tCons (tC (.int 3)) (tCons (tC (.int 0)) (tNil)))))) (tCons (tTup (tCons (tC (.int 0)) (tCons (tC (.int 3)) (tCons (tC (.int 2)) (tCons (tC (.int 1)) (tNil)))))) (tNil))))) (tSeq (sDPut (tVar 1) (tC (.str "q8")) (tTup (tCons (tTup (tCons (tC (.int 1)) (tCons (tC (.int 4)) (tCons (tC (.int 3)) (tCons (tC (.int 6)) (tCons (tC (.int 5)) (tCons (tC (.int 0)) (tCons (tC (.int 7)) (tCons (tC (.int 2)) (tNil)))))))))) (tCons (tTup (tCons (tC (.int 2)) (tCons (tC (.int 7)) (tCons (tC (.int 4)) (tCons (tC (.int 1)) (tCons (tC (.int 6)) (tCons (tC (.int 3)) (tCons (tC (.int 0)) (tCons (tC (.int 5)) (tNil)))))))))) (tNil))))) (tSeq (sDPut (tVar 1) (tC (.str "a4")) (tTup (tCons (tTup (tCons (tC (.int 1)) (tCons (tC (.int 2)) (tCons (tC (.int 0)) (tCons (tC (.int 3)) (tNil)))))) (tCons (tTup (tCons (tC (.int 1)) (tCons (tC (.int 0)) (tCons (tC (.int 3)) (tCons (tC (.int 2)) (tNil)))))) (tNil))))) (tSeq (sDPut (tVar 1) (tC (.str "d5")) (tTup (tCons (tTup (tCons (tC (.int 1)) (tCons (tC (.int 2)) (tCons (tC (.int 3)) (tCons (tC (.int 4)) (tCons (tC (.int 0)) (tNil))))))) (tCons (tTup (tCons (tC (.int 0)) (tCons (tC (.int 4)) (tCons (tC (.int 3)) (tCons (tC (.int 2)) (tCons (tC (.int 1)) (tNil))))))) (tNil))))) (tSeq (sDPut (tVar 1) (tC (.str "d6")) (tTup (tCons (tTup (tCons (tC (.int 1)) (tCons (tC (.int 2)) (tCons (tC (.int 3)) (tCons (tC (.int 4)) (tCons (tC (.int 5)) (tCons (tC (.int 0)) (tNil)))))))) (tCons (tTup (tCons (tC (.int 0)) (tCons (tC (.int 5)) (tCons (tC (.int 4)) (tCons (tC (.int 3)) (tCons (tC (.int 2)) (tCons (tC (.int 1)) (tNil)))))))) (tNil))))) (tRet (tVar 1))))))))))) := (tSeq_assoc _ _ _).trans (congrArg (tSeq _) ((tSeq_assoc _ _ _).trans (congrArg (tSeq _) ((tSeq_assoc _ _ _).trans (congrArg (tSeq _) ((tSeq_assoc _ _ _).trans (congrArg (tSeq _) ((tSeq_assoc _ _ _).trans (congrArg (tSeq _) ((tSeq_assoc _ _ _).trans (congrArg (tSeq _) ((tSeq_assoc _ _ _).trans (congrArg (tSeq _) ((tSeq_assoc _ _ _).trans (congrArg (tSeq _) ((tSeq_assoc _ _ _).trans (congrArg (tSeq _) (rfl))))))))))))))))))
  rw [← E1]
  exact body_endO (m := mlaw_ready_moves) (i := 1) h (fun F0 H0 => sx_seq (sx_own 1 (ox_cb bDictK (ab_cons ((ox_lc (wx_range2 (ab_cons ((ex_int 1).b) (ab_cons ((ex_int 9).b) (ab_nil))) (mCons_len (mCons_len (mNil_len)))) (gw_name 0) (tx_yes) (ex_tup (ax_cons (ex_op (bCatS) ((ex_str "c").b) ((ex_cb bStrI (ab_cons (bx_var 0) (ab_nil))).b)) (ax_cons (ex_call (ax_cons (ex_var 0) (ax_nil))) (ax_nil))))).b) (ab_nil)))) (sx_seq (sx_put 1 (ex_str "v4") (ex_tup (ax_cons (ex_tup (ax_cons (ex_int 1) (ax_cons (ex_int 0) (ax_cons (ex_int 2) (ax_cons (ex_int 3) (ax_nil)))))) (ax_cons (ex_tup (ax_cons (ex_int 0) (ax_cons (ex_int 1) (ax_cons (ex_int 3) (ax_cons (ex_int 2) (ax_nil)))))) (ax_nil))))) (sx_seq (sx_put 1 (ex_str "c2c4") (ex_tup (ax_cons (ex_tup (ax_cons (ex_int 1) (ax_cons (ex_int 0) (ax_cons (ex_int 2) (ax_cons (ex_int 3) (ax_cons (ex_int 4) (ax_cons (ex_int 5) (ax_nil)))))))) (ax_cons (ex_tup (ax_cons (ex_int 0) (ax_cons (ex_int 1) (ax_cons (ex_int 3) (ax_cons (ex_int 4) (ax_cons (ex_int 5) (ax_cons (ex_int 2) (ax_nil)))))))) (ax_nil))))) (sx_seq (sx_put 1 (ex_str "c3c3") (ex_tup (ax_cons (ex_tup (ax_cons (ex_int 1) (ax_cons (ex_int 2) (ax_cons (ex_int 0) (ax_cons (ex_int 3) (ax_cons (ex_int 4) (ax_cons (ex_int 5) (ax_nil)))))))) (ax_cons (ex_tup (ax_cons (ex_int 0) (ax_cons (ex_int 1) (ax_cons (ex_int 2) (ax_cons (ex_int 4) (ax_cons (ex_int 5) (ax_cons (ex_int 3) (ax_nil)))))))) (ax_nil))))) (sx_seq (sx_put 1 (ex_str "s3") (ex_tup (ax_cons (ex_tup (ax_cons (ex_int 1) (ax_cons (ex_int 0) (ax_cons (ex_int 2) (ax_nil))))) (ax_cons (ex_tup (ax_cons (ex_int 1) (ax_cons (ex_int 2) (ax_cons (ex_int 0) (ax_nil))))) (ax_nil))))) (sx_seq (sx_put 1 (ex_str "d4") (ex_tup (ax_cons (ex_tup (ax_cons (ex_int 1) (ax_cons (ex_int 2) (ax_cons (ex_int 3) (ax_cons (ex_int 0) (ax_nil)))))) (ax_cons (ex_tup (ax_cons (ex_int 0) (ax_cons (ex_int 3) (ax_cons (ex_int 2) (ax_cons (ex_int 1) (ax_nil)))))) (ax_nil))))) (sx_seq (sx_put 1 (ex_str "q8") (ex_tup (ax_cons (ex_tup (ax_cons (ex_int 1) (ax_cons (ex_int 4) (ax_cons (ex_int 3) (ax_cons (ex_int 6) (ax_cons (ex_int 5) (ax_cons (ex_int 0) (ax_cons (ex_int 7) (ax_cons (ex_int 2) (ax_nil)))))))))) (ax_cons (ex_tup (ax_cons (ex_int 2) (ax_cons (ex_int 7) (ax_cons (ex_int 4) (ax_cons (ex_int 1) (ax_cons (ex_int 6) (ax_cons (ex_int 3) (ax_cons (ex_int 0) (ax_cons (ex_int 5) (ax_nil)))))))))) (ax_nil))))) (sx_seq (sx_put 1 (ex_str "a4") (ex_tup (ax_cons (ex_tup (ax_cons (ex_int 1) (ax_cons (ex_int 2) (ax_cons (ex_int 0) (ax_cons (ex_int 3) (ax_nil)))))) (ax_cons (ex_tup (ax_cons (ex_int 1) (ax_cons (ex_int 0) (ax_cons (ex_int 3) (ax_cons (ex_int 2) (ax_nil)))))) (ax_nil))))) (sx_seq (sx_put 1 (ex_str "d5") (ex_tup (ax_cons (ex_tup (ax_cons (ex_int 1) (ax_cons (ex_int 2) (ax_cons (ex_int 3) (ax_cons (ex_int 4) (ax_cons (ex_int 0) (ax_nil))))))) (ax_cons (ex_tup (ax_cons (ex_int 0) (ax_cons (ex_int 4) (ax_cons (ex_int 3) (ax_cons (ex_int 2) (ax_cons (ex_int 1) (ax_nil))))))) (ax_nil))))) (sx_put 1 (ex_str "d6") (ex_tup (ax_cons (ex_tup (ax_cons (ex_int 1) (ax_cons (ex_int 2) (ax_cons (ex_int 3) (ax_cons (ex_int 4) (ax_cons (ex_int 5) (ax_cons (ex_int 0) (ax_nil)))))))) (ax_cons (ex_tup (ax_cons (ex_int 0) (ax_cons (ex_int 5) (ax_cons (ex_int 4) (ax_cons (ex_int 3) (ax_cons (ex_int 2) (ax_cons (ex_int 1) (ax_nil)))))))) (ax_nil))))))))))))))
end
abbrev sself_settle : Stmt := inClass (top 17) 1
theorem scself_settle : FnScope ["self", "moves", "index", "move", "index_of", "one", "other", "row"] ["self", "moves"] (defScope sself_settle) := ⟨rfl, rfl, rfl, by decide +kernel, rfl, by decide +kernel, by decide +kernel⟩
def mself_settle : M Fl := mSeq (mOwn 4 (mDcT [2, 3] (mItET (mFro 1)) (stTup 2 (stCons (stN 2) (stCons (stN 3) (stNil)))) (fun _ => some true) (mFro 3) (mFro 2))) (mSeq (mSetF 0 aG "_moves" (mFro 1)) (mSeq (mSetF 0 aG "_members" (mF fTupR (mB (f1 fLen) (mCons (mAny 1) (mNil))))) (mSeq (mSetF 0 aG "_products" (mB (f1 fun d => (lstD d).map D.tup) (mCons (mLc [5] (mItT (mFro 1)) (stN 5) (fun _ => some true) (mB (f1 fun d => (lstD d).map D.ftup) (mCons (mLc [6] (mItT (mFro 1)) (stN 6) (fun _ => some true) (m2 fGetI (mAny 4) (mCall 2 r_joined (mCons (mFro 5) (mCons (mFro 6) (mNil)))))) (mNil)))) (mNil)))) (mSetF 0 aG "_inverses" (mB (f1 fun d => (lstD d).map D.tup) (mCons (mLc [7] (mItT (mFld aG "_products" (mAny 0))) (stN 7) (fun _ => some true) (m2 fTIdx (mFro 7) (mC (.int 0)))) (mNil)))))))
def r_self_settle : D → Option D := runS 8 aG mself_settle
section
variable {P : Program} {w : World} {K : PySem.W.Frag} {mg : Str → Option Value} {base : Heap}
theorem ok_self_settle {f : Addr} {fd : FuncData} (F : Fun K "_settle" "Group._settle" sself_settle f fd) (F_joined : Own P w K mg base 1 "joined" 2 r_joined) (T : Txt K) (z_enumerate : mg "enumerate" = none) (z_len : mg "len" = none) (z_range : mg "range" = none) (z_tuple : mg "tuple" = none) : FnOk P w K mg base CX0 2 f fd ["self", "moves"] (spSelf K aG r_self_settle) := by
  have sc := scself_settle
  refine F.ok sc (fun vs H Q E h => spSelf_len h) (fun cdv A outer s H vs Q E hr h => ?_)
  refine ⟨tSeq (tAsg (tDcT (iEnumT K (tCons (tVar 1) tNil)) (gTup K 2 (gCons (gName 2) (gCons (gName 3) (gNil)))) (tYes) (tVar 3) (tVar 2) [2, 3]) (gName 4)) (tSeq (sFld K (tVar 0) (tVar 1) "_moves") (tSeq (sFld K (tVar 0) (tTupRg (tRg1 (tCB (rLenQ K) (tCons (tVar 1) (tNil))))) "_members") (tSeq (sFld K (tVar 0) (tCB (rTupQ K) (tCons (tLc (iTup K (tVar 1)) (gName 5) (tYes) (tCB (rTupF K) (tCons (tLc (iTup K (tVar 1)) (gName 6) (tYes) (tDGet (tVar 4) (tCall (spD K 2 r_joined) [] E0 (tCons (tVar 5) (tCons (tVar 6) (tNil))))) [6]) (tNil))) [5]) (tNil))) "_products") (sFld K (tVar 0) (tCB (rTupQ K) (tCons (tLc (iTup K (tFld K (tVar 0) "_products")) (gName 7) (tYes) (tBMF "tuple" (rTIdx K) (tVar 7) (tCons (tC (.int 0)) tNil)) [7]) (tNil))) "_inverses")))), pss_cons (ps_set (i := 4) sc.nd rfl (.inr rfl) (pe_dcT (own := [("index", 2), ("move", 3)]) rfl sc.nd (hu1 hr) (pi_enumT rfl z_enumerate (pa_cons (pv 1) pa_nil)) (blkOk_by (by rfl)) (fun _ _ _ _ _ => pg_tup rfl (pgs_cons (pg_name (i := 2) sc.nd rfl (.inl rfl)) (pgs_cons (pg_name (i := 3) sc.nd rfl (.inl rfl)) (pgs_nil)))) (fun _ _ _ _ _ => pts_nil) (fun _ _ _ _ _ => pv 3) (fun _ _ _ _ _ => pv 2))) (pss_cons (ps_fld (pv 0) (pv 1) rfl) (pss_cons (ps_fld (pv 0) (pe_tupRg rfl rfl z_tuple (prg_1 rfl z_range (pe_callB hLenQ rfl z_len (by decide +kernel) (pa_cons (pv 1) (pa_nil))))) rfl) (pss_cons (ps_fld (pv 0) (pe_callTy hTupQ rfl z_tuple (by decide +kernel) (pa_cons (pe_lc (own := [("one", 5)]) rfl sc.nd (pi_tup (pv 1)) (blkOk_by (by rfl)) (fun _ _ _ _ _ => pg_name (i := 5) sc.nd rfl (.inr rfl)) (fun _ _ _ _ _ => pts_nil) (fun _ _ _ _ _ => pe_callTy hTupF rfl z_tuple (by decide +kernel) (pa_cons (pe_lc (own := [("other", 6)]) rfl sc.nd (pi_tup (pv 1)) (blkOk_by (by rfl)) (fun _ _ _ _ _ => pg_name (i := 6) sc.nd rfl (.inl rfl)) (fun _ _ _ _ _ => pts_nil) (fun _ _ _ _ _ => pe_dget (hu1 hr) (pv 4) (pe_call F_joined.F (hr.mono (by decide)) rfl F_joined.g F_joined.k F_joined.b .nil pass0 (pa_cons (pv 5) (pa_cons (pv 6) (pa_nil)))) (fun _ _ => rfl))) (pa_nil)))) (pa_nil))) rfl) (pss_one (ps_fld (pv 0) (pe_callTy hTupQ rfl z_tuple (by decide +kernel) (pa_cons (pe_lc (own := [("row", 7)]) rfl sc.nd (pi_tup (pe_fld (pv 0) (by rfl))) (blkOk_by (by rfl)) (fun _ _ _ _ _ => pg_name (i := 7) sc.nd rfl (.inl rfl)) (fun _ _ _ _ _ => pts_nil) (fun _ _ _ _ _ => pe_bmF PySem.F.plainAttrs_tuple PySem.F.slot_tuple_index PySem.F.type_tuple_index mt_tidx (pv 7) (pa_cons (pe_int) pa_nil))) (pa_nil))) rfl))))), ?_⟩
  exact self_end (m := mself_settle) h (fun F0 H0 => sp_seq (sp_own 4 (by decide) (ox_dcT (wx_enumT (ex_var 1)) (gw_tup2 2 3) (tx_yes) (ex_var 3) (ex_var 2))) (sp_seq (sp_fld T.cl T.n_moves (ex_var 1)) (sp_seq (sp_fld T.cl T.n_members (ex_tupRg (ex_cb bLenQ (ab_cons (bx_var 1) (ab_nil))))) (sp_seq (sp_fld T.cl T.n_products (ex_cb bTupQ (ab_cons ((ox_lc (wx_tup (ex_var 1)) (gw_name 5) (tx_yes) (ex_cb bTupF (ab_cons ((ox_lc (wx_tup (ex_var 1)) (gw_name 6) (tx_yes) (ex_dget (bx_var 4) ((ex_call (ax_cons (ex_var 5) (ax_cons (ex_var 6) (ax_nil)))).b))).b) (ab_nil)))).b) (ab_nil)))) (sp_fld T.cl T.n_inverses (ex_cb bTupQ (ab_cons ((ox_lc (wx_tup (ex_fld T.cl T.n_products (bx_var 0))) (gw_name 7) (tx_yes) (ex_tidx (ex_var 7) (ex_int 0))).b) (ab_nil))))))))
end
abbrev sself_init : Stmt := inClass (top 17) 0
theorem scself_init : FnScope ["self", "moves"] ["self", "moves"] (defScope sself_init) := ⟨rfl, rfl, rfl, by decide +kernel, rfl, by decide +kernel, by decide +kernel⟩
def mself_init : M Fl := mSeq (mIf (mNot (mBool (mCall 1 r_are_moves (mCons (mFro 1) (mNil))))) (mStop) (mNext)) (mMethS 0 aG r_self_settle (mCall 1 r_all_renamings (mCons (mFro 1) (mNil))))
def r_self_init : D → Option D := runS 2 aG mself_init
section
variable {P : Program} {w : World} {K : PySem.W.Frag} {mg : Str → Option Value} {base : Heap}
theorem ok_self_init {f : Addr} {fd : FuncData} (F : Fun K "__init__" "Group.__init__" sself_init f fd) (F_all_renamings : Own P w K mg base 2 "all_renamings" 1 r_all_renamings) (F_are_moves : Own P w K mg base 5 "are_moves" 1 r_are_moves) (Se_settle : OwnSelf P w K mg base 2 aG "_settle" r_self_settle) : FnOk P w K mg base CX0 6 f fd ["self", "moves"] (spSelf K aG r_self_init) := by
  have sc := scself_init
  refine F.ok sc (fun vs H Q E h => spSelf_len h) (fun cdv A outer s H vs Q E hr h => ?_)
  refine ⟨tSeq (tIfS (tNot (tB (tCall (spD K 1 r_are_moves) [] E0 (tCons (tVar 1) (tNil))))) ((fun _ _ _ => False)) (tNext)) (tDrop (tMeth aG "_settle" (spSelf K aG r_self_settle) [] E0 (tVar 0) (tCons (tCall (spD K 1 r_all_renamings) [] E0 (tCons (tVar 1) (tNil))) tNil))), pss_cons (ps_if (pt_not (pt_val (pe_call F_are_moves.F (hr.mono (by decide)) rfl F_are_moves.g F_are_moves.k F_are_moves.b .nil pass0 (pa_cons (pv 1) (pa_nil))) (fun _ => rfl))) (pss_one (ps_no)) (pss_nil)) (pss_one (ps_expr (pe_meth (pv 0) Se_settle.c Se_settle.m Se_settle.F (hr.mono (by decide)) Se_settle.b .nil pass0 (pa_cons (pe_call F_all_renamings.F (hr.mono (by decide)) rfl F_all_renamings.g F_all_renamings.k F_all_renamings.b .nil pass0 (pa_cons (pv 1) (pa_nil))) pa_nil)))), ?_⟩
  exact self_end (m := mself_init) h (fun F0 H0 => sp_seq (sp_if (tx_not (tx_b ((ex_call (ax_cons (ex_var 1) (ax_nil))).b))) (sp_stop) (sp_next)) (sp_meth (ex_call (ax_cons (ex_var 1) (ax_nil)))))
end
abbrev sini_Refused : Stmt := inClass (top 6) 0
theorem scini_Refused : FnScope ["self", "reason"] ["self", "reason"] (defScope sini_Refused) := ⟨rfl, rfl, rfl, by decide +kernel, rfl, by decide +kernel, by decide +kernel⟩
section
variable {P : Program} {w : World} {K : PySem.W.Frag} {mg : Str → Option Value} {base : Heap}
theorem ok_ini_Refused {f : Addr} {fd : FuncData} (F : Fun K "__init__" "Refused.__init__" sini_Refused f fd) (T : ErrC K aR) (no : PySem.W.findIn K (.ref aR) "reason" = some none) : FnOk P w K mg base CX0 1 f fd ["self", "reason"] (spIni aR "reason") := by
  have sc := scini_Refused
  refine F.ok sc (fun vs H Q E h => spIni_len h) (fun cdv A outer s H vs Q E hr h => ⟨tPutE K "reason" (tVar 0) (tVar 1), pss_one (ps_putE (pv 0) (pv 1)), ?_⟩)
  obtain ⟨a, y, rfl, e, k⟩ := h
  exact ⟨_, rfl, _, rfl, a, aR, rfl, T, no, e, k⟩
end
abbrev sini_InvalidNumber : Stmt := inClass (top 4) 0
theorem scini_InvalidNumber : FnScope ["self", "given"] ["self", "given"] (defScope sini_InvalidNumber) := ⟨rfl, rfl, rfl, by decide +kernel, rfl, by decide +kernel, by decide +kernel⟩
section
variable {P : Program} {w : World} {K : PySem.W.Frag} {mg : Str → Option Value} {base : Heap}
theorem ok_ini_InvalidNumber {f : Addr} {fd : FuncData} (F : Fun K "__init__" "InvalidNumber.__init__" sini_InvalidNumber f fd) (T : ErrC K aIN) (no : PySem.W.findIn K (.ref aIN) "given" = some none) : FnOk P w K mg base CX0 1 f fd ["self", "given"] (spIni aIN "given") := by
  have sc := scini_InvalidNumber
  refine F.ok sc (fun vs H Q E h => spIni_len h) (fun cdv A outer s H vs Q E hr h => ⟨tPutE K "given" (tVar 0) (tVar 1), pss_one (ps_putE (pv 0) (pv 1)), ?_⟩)
  obtain ⟨a, y, rfl, e, k⟩ := h
  exact ⟨_, rfl, _, rfl, a, aIN, rfl, T, no, e, k⟩
end
abbrev sx_need_group : Stmt := top 26
theorem scx_need_group : FnScope ["group"] ["group"] (defScope sx_need_group) := ⟨rfl, rfl, rfl, by decide +kernel, rfl, by decide +kernel, by decide +kernel⟩
def mx_need_group : M Fl := mIf (mNot (mBool (mB (fIsG (isOwn aG) (isCstD aG)) (mCons (mAny 0) (mCons (mC (.cst aG)) mNil))))) (mStop) (mNext)
def mex_need_group : M Er := mIfEr (mNot (mBool (mB (fIsG (isOwn aG) (isCstD aG)) (mCons (mAny 0) (mCons (mC (.cst aG)) mNil))))) (mRaiseP aIG) (mNoE)
def rx_need_group : List D → Option D := runD 1 mx_need_group
def ex_need_group : List D → Option Er := runE 1 mex_need_group
section
variable {P : Program} {w : World} {K : PySem.W.Frag} {mg : Str → Option Value} {base : Heap}
theorem ok_x_need_group {f : Addr} {fd : FuncData} (F : Fun K "need_group" "need_group" sx_need_group f fd) (Ep_InvalidGroup : OwnErrP K mg "InvalidGroup" aIG) (Kc_Group : OwnK K aG) (g_Group : mg "Group" = some (.ref aG)) (z_isinstance : mg "isinstance" = none) : FnOk P w K mg base (L2.CX P w) 3 f fd ["group"] (spX K 1 rx_need_group ex_need_group) := by
  have sc := scx_need_group
  refine F.okX sc (fun vs H Q E h => spX_len h) (fun cdv A outer s H vs Q E hr h => ?_)
  refine ⟨tIfS (tNot (tB (tCB (rIsi K) (tCons (tVar 0) (tCons (tC (.ref aG)) tNil))))) ((fun _ σ H => E (.ref aIG) none H)) (tNext), pss_one (ps_if (pt_not (pt_val (pe_callB call_isi rfl z_isinstance (by decide +kernel) (pa_cons (pv 0) (pa_cons (pe_glob rfl g_Group rfl) pa_nil))) (fun _ => rfl))) (pss_one (ps_raiseP rfl (takes_of rfl rfl rfl rfl) Ep_InvalidGroup rfl)) (pss_nil)), ?_⟩
  exact body_endX (m := mx_need_group) (e := mex_need_group) h (fun F0 H0 => sx_if (tx_not (tx_b ((ex_cb (cb_isC Kc_Group) (ab_cons (bx_var 0) (ab_cons ((ex_c (fun _ => .cst aG)).b) ab_nil))).b))) (sx_stop) (sx_next)) (fun F0 H0 => sxe_if (tx_not (tx_b ((ex_cb (cb_isC Kc_Group) (ab_cons (bx_var 0) (ab_cons ((ex_c (fun _ => .cst aG)).b) ab_nil))).b))) (sxe_raiseP) (sxe_no))
end
abbrev sbar_members : Stmt := top 47
theorem scbar_members : FnScope ["group", "one", "other"] ["group"] (defScope sbar_members) := ⟨rfl, rfl, rfl, by decide +kernel, rfl, by decide +kernel, by decide +kernel⟩
def mbar_members : M Fl := mSeq ((fun δ => ((mCall 1 rx_need_group (mCons (mFro 0) (mNil))) δ).map fun _ => .nx δ)) (mSeq (mStop) (mStop))
def mebar_members : M Er := mSeqE (mCallE 1 ex_need_group (mCons (mFro 0) (mNil))) ((fun δ => ((mCall 1 rx_need_group (mCons (mFro 0) (mNil))) δ).map fun _ => .nx δ)) (mSeqE (mNoE) (mStop) (mNoE))
def rx_bar_members : List D → Option D := runD 3 mbar_members
def ex_bar_members : List D → Option Er := runE 3 mebar_members
section
variable {P : Program} {w : World} {K : PySem.W.Frag} {mg : Str → Option Value} {base : Heap}
theorem ok_bar_members {f : Addr} {fd : FuncData} (F : Fun K "bar_members" "bar_members" sbar_members f fd) (X_need_group : OwnX P w K mg base 3 "need_group" 1 rx_need_group ex_need_group) : FnOk P w K mg base (L2.CX P w) 4 f fd ["group"] (spX K 1 rx_bar_members ex_bar_members) := by
  have sc := scbar_members
  refine F.okX sc (fun vs H Q E h => spX_len h) (fun cdv A outer s H vs Q E hr h => ?_)
  refine ⟨tSeq (tDrop (tCall (spX K 1 rx_need_group ex_need_group) [] E (tCons (tVar 0) (tNil)))) (tSeq (tNever) (tNever)), pss_cons (ps_expr (pe_call X_need_group.F (hr.mono (by decide)) rfl X_need_group.g X_need_group.k X_need_group.b .nil (passX (takes_of rfl rfl rfl rfl)) (pa_cons (pv 0) (pa_nil)))) (pss_cons (ps_never) (pss_one (ps_never))), ?_⟩
  exact body_endX (m := mbar_members) (e := mebar_members) h (fun F0 H0 => sx_seq (sx_expr (ex_callX (ax_cons (ex_var 0) (ax_nil))).b) (sx_seq (sx_never) (sx_never))) (fun F0 H0 => sxe_seq (sxe_expr (exe_call (ax_cons (ex_var 0) (ax_nil)))) (sx_expr (ex_callX (ax_cons (ex_var 0) (ax_nil))).b) (sxe_seq (sxe_no) (sx_never) (sxe_no)))
end
abbrev sis_bar : Stmt := top 48
theorem scis_bar : FnScope ["group", "value", "member"] ["group", "value"] (defScope sis_bar) := ⟨rfl, rfl, rfl, by decide +kernel, rfl, by decide +kernel, by decide +kernel⟩
def mis_bar : M Fl := mSeq ((fun δ => ((mCall 1 rx_need_group (mCons (mFro 0) (mNil))) δ).map fun _ => .nx δ)) (mSeq (mStop) (mStop))
def meis_bar : M Er := mSeqE (mCallE 1 ex_need_group (mCons (mFro 0) (mNil))) ((fun δ => ((mCall 1 rx_need_group (mCons (mFro 0) (mNil))) δ).map fun _ => .nx δ)) (mSeqE (mNoE) (mStop) (mNoE))
def rx_is_bar : List D → Option D := runD 3 mis_bar
def ex_is_bar : List D → Option Er := runE 3 meis_bar
section
variable {P : Program} {w : World} {K : PySem.W.Frag} {mg : Str → Option Value} {base : Heap}
theorem ok_is_bar {f : Addr} {fd : FuncData} (F : Fun K "is_bar" "is_bar" sis_bar f fd) (X_need_group : OwnX P w K mg base 3 "need_group" 1 rx_need_group ex_need_group) : FnOk P w K mg base (L2.CX P w) 4 f fd ["group", "value"] (spX K 2 rx_is_bar ex_is_bar) := by
  have sc := scis_bar
  refine F.okX sc (fun vs H Q E h => spX_len h) (fun cdv A outer s H vs Q E hr h => ?_)
  refine ⟨tSeq (tDrop (tCall (spX K 1 rx_need_group ex_need_group) [] E (tCons (tVar 0) (tNil)))) (tSeq (tNever) (tNever)), pss_cons (ps_expr (pe_call X_need_group.F (hr.mono (by decide)) rfl X_need_group.g X_need_group.k X_need_group.b .nil (passX (takes_of rfl rfl rfl rfl)) (pa_cons (pv 0) (pa_nil)))) (pss_cons (ps_never) (pss_one (ps_never))), ?_⟩
  exact body_endX (m := mis_bar) (e := meis_bar) h (fun F0 H0 => sx_seq (sx_expr (ex_callX (ax_cons (ex_var 0) (ax_nil))).b) (sx_seq (sx_never) (sx_never))) (fun F0 H0 => sxe_seq (sxe_expr (exe_call (ax_cons (ex_var 0) (ax_nil)))) (sx_expr (ex_callX (ax_cons (ex_var 0) (ax_nil))).b) (sxe_seq (sxe_no) (sx_never) (sxe_no)))
end
abbrev sagain_paper : Stmt := top 54
theorem scagain_paper : FnScope ["group"] ["group"] (defScope sagain_paper) := ⟨rfl, rfl, rfl, by decide +kernel, rfl, by decide +kernel, by decide +kernel⟩
def magain_paper : M Fl := mSeq ((fun δ => ((mCall 1 rx_need_group (mCons (mFro 0) (mNil))) δ).map fun _ => .nx δ)) (mStop)
def meagain_paper : M Er := mSeqE (mCallE 1 ex_need_group (mCons (mFro 0) (mNil))) ((fun δ => ((mCall 1 rx_need_group (mCons (mFro 0) (mNil))) δ).map fun _ => .nx δ)) (mNoE)
def rx_again_paper : List D → Option D := runD 1 magain_paper
def ex_again_paper : List D → Option Er := runE 1 meagain_paper
section
variable {P : Program} {w : World} {K : PySem.W.Frag} {mg : Str → Option Value} {base : Heap}
theorem ok_again_paper {f : Addr} {fd : FuncData} (F : Fun K "again_paper" "again_paper" sagain_paper f fd) (X_need_group : OwnX P w K mg base 3 "need_group" 1 rx_need_group ex_need_group) : FnOk P w K mg base (L2.CX P w) 4 f fd ["group"] (spX K 1 rx_again_paper ex_again_paper) := by
  have sc := scagain_paper
  refine F.okX sc (fun vs H Q E h => spX_len h) (fun cdv A outer s H vs Q E hr h => ?_)
  refine ⟨tSeq (tDrop (tCall (spX K 1 rx_need_group ex_need_group) [] E (tCons (tVar 0) (tNil)))) (tNever), pss_cons (ps_expr (pe_call X_need_group.F (hr.mono (by decide)) rfl X_need_group.g X_need_group.k X_need_group.b .nil (passX (takes_of rfl rfl rfl rfl)) (pa_cons (pv 0) (pa_nil)))) (pss_one (ps_never)), ?_⟩
  exact body_endX (m := magain_paper) (e := meagain_paper) h (fun F0 H0 => sx_seq (sx_expr (ex_callX (ax_cons (ex_var 0) (ax_nil))).b) (sx_never)) (fun F0 H0 => sxe_seq (sxe_expr (exe_call (ax_cons (ex_var 0) (ax_nil)))) (sx_expr (ex_callX (ax_cons (ex_var 0) (ax_nil))).b) (sxe_no))
end
abbrev sis_again_paper : Stmt := top 55
theorem scis_again_paper : FnScope ["group", "value", "primes", "prime", "entry"] ["group", "value"] (defScope sis_again_paper) := ⟨rfl, rfl, rfl, by decide +kernel, rfl, by decide +kernel, by decide +kernel⟩
def mis_again_paper : M Fl := mSeq ((fun δ => ((mCall 1 rx_need_group (mCons (mFro 0) (mNil))) δ).map fun _ => .nx δ)) (mSeq (mStop) (mSeq (mStop) (mStop)))
def meis_again_paper : M Er := mSeqE (mCallE 1 ex_need_group (mCons (mFro 0) (mNil))) ((fun δ => ((mCall 1 rx_need_group (mCons (mFro 0) (mNil))) δ).map fun _ => .nx δ)) (mSeqE (mNoE) (mStop) (mSeqE (mNoE) (mStop) (mNoE)))
def rx_is_again_paper : List D → Option D := runD 5 mis_again_paper
def ex_is_again_paper : List D → Option Er := runE 5 meis_again_paper
section
variable {P : Program} {w : World} {K : PySem.W.Frag} {mg : Str → Option Value} {base : Heap}
theorem ok_is_again_paper {f : Addr} {fd : FuncData} (F : Fun K "is_again_paper" "is_again_paper" sis_again_paper f fd) (X_need_group : OwnX P w K mg base 3 "need_group" 1 rx_need_group ex_need_group) : FnOk P w K mg base (L2.CX P w) 4 f fd ["group", "value"] (spX K 2 rx_is_again_paper ex_is_again_paper) := by
  have sc := scis_again_paper
  refine F.okX sc (fun vs H Q E h => spX_len h) (fun cdv A outer s H vs Q E hr h => ?_)
  refine ⟨tSeq (tDrop (tCall (spX K 1 rx_need_group ex_need_group) [] E (tCons (tVar 0) (tNil)))) (tSeq (tNever) (tSeq (tNever) (tNever))), pss_cons (ps_expr (pe_call X_need_group.F (hr.mono (by decide)) rfl X_need_group.g X_need_group.k X_need_group.b .nil (passX (takes_of rfl rfl rfl rfl)) (pa_cons (pv 0) (pa_nil)))) (pss_cons (ps_never) (pss_cons (ps_never) (pss_one (ps_never)))), ?_⟩
  exact body_endX (m := mis_again_paper) (e := meis_again_paper) h (fun F0 H0 => sx_seq (sx_expr (ex_callX (ax_cons (ex_var 0) (ax_nil))).b) (sx_seq (sx_never) (sx_seq (sx_never) (sx_never)))) (fun F0 H0 => sxe_seq (sxe_expr (exe_call (ax_cons (ex_var 0) (ax_nil)))) (sx_expr (ex_callX (ax_cons (ex_var 0) (ax_nil))).b) (sxe_seq (sxe_no) (sx_never) (sxe_seq (sxe_no) (sx_never) (sxe_no))))
end
abbrev smade_commuting : Stmt := top 62
theorem scmade_commuting : FnScope ["group"] ["group"] (defScope smade_commuting) := ⟨rfl, rfl, rfl, by decide +kernel, rfl, by decide +kernel, by decide +kernel⟩
def mmade_commuting : M Fl := mSeq ((fun δ => ((mCall 1 rx_need_group (mCons (mFro 0) (mNil))) δ).map fun _ => .nx δ)) (mStop)
def memade_commuting : M Er := mSeqE (mCallE 1 ex_need_group (mCons (mFro 0) (mNil))) ((fun δ => ((mCall 1 rx_need_group (mCons (mFro 0) (mNil))) δ).map fun _ => .nx δ)) (mNoE)
def rx_made_commuting : List D → Option D := runD 1 mmade_commuting
def ex_made_commuting : List D → Option Er := runE 1 memade_commuting
section
variable {P : Program} {w : World} {K : PySem.W.Frag} {mg : Str → Option Value} {base : Heap}
theorem ok_made_commuting {f : Addr} {fd : FuncData} (F : Fun K "made_commuting" "made_commuting" smade_commuting f fd) (X_need_group : OwnX P w K mg base 3 "need_group" 1 rx_need_group ex_need_group) : FnOk P w K mg base (L2.CX P w) 4 f fd ["group"] (spX K 1 rx_made_commuting ex_made_commuting) := by
  have sc := scmade_commuting
  refine F.okX sc (fun vs H Q E h => spX_len h) (fun cdv A outer s H vs Q E hr h => ?_)
  refine ⟨tSeq (tDrop (tCall (spX K 1 rx_need_group ex_need_group) [] E (tCons (tVar 0) (tNil)))) (tNever), pss_cons (ps_expr (pe_call X_need_group.F (hr.mono (by decide)) rfl X_need_group.g X_need_group.k X_need_group.b .nil (passX (takes_of rfl rfl rfl rfl)) (pa_cons (pv 0) (pa_nil)))) (pss_one (ps_never)), ?_⟩
  exact body_endX (m := mmade_commuting) (e := memade_commuting) h (fun F0 H0 => sx_seq (sx_expr (ex_callX (ax_cons (ex_var 0) (ax_nil))).b) (sx_never)) (fun F0 H0 => sxe_seq (sxe_expr (exe_call (ax_cons (ex_var 0) (ax_nil)))) (sx_expr (ex_callX (ax_cons (ex_var 0) (ax_nil))).b) (sxe_no))
end
abbrev sprime_turns : Stmt := top 57
theorem scprime_turns : FnScope ["group", "prime"] ["group", "prime"] (defScope sprime_turns) := ⟨rfl, rfl, rfl, by decide +kernel, rfl, by decide +kernel, by decide +kernel⟩
def mprime_turns : M Fl := mSeq ((fun δ => ((mCall 1 rx_need_group (mCons (mFro 0) (mNil))) δ).map fun _ => .nx δ)) (mSeq (mIf (mOr (mNot (mBool (mCall 1 r_is_integer (mCons (mFro 1) (mNil))))) (mBool (m2 (fInF true) (mAny 1) (mCall 1 r_primes_of (mCons (mProp aG r_p_size (mFro 0)) (mNil)))))) (mStop) (mNext)) (mRet (mCall 2 r_turns_of_part (mCons (mFro 0) (mCons (mFro 1) (mNil))))))
def meprime_turns : M Er := mSeqE (mCallE 1 ex_need_group (mCons (mFro 0) (mNil))) ((fun δ => ((mCall 1 rx_need_group (mCons (mFro 0) (mNil))) δ).map fun _ => .nx δ)) (mSeqE (mIfEr (mOr (mNot (mBool (mCall 1 r_is_integer (mCons (mFro 1) (mNil))))) (mBool (m2 (fInF true) (mAny 1) (mCall 1 r_primes_of (mCons (mProp aG r_p_size (mFro 0)) (mNil)))))) (mRaiseE aIN "given" (mCons (mFro 1) (mNil))) (mNoE)) (mIf (mOr (mNot (mBool (mCall 1 r_is_integer (mCons (mFro 1) (mNil))))) (mBool (m2 (fInF true) (mAny 1) (mCall 1 r_primes_of (mCons (mProp aG r_p_size (mFro 0)) (mNil)))))) (mStop) (mNext)) (mNoE))
def rx_prime_turns : List D → Option D := runD 2 mprime_turns
def ex_prime_turns : List D → Option Er := runE 2 meprime_turns
section
variable {P : Program} {w : World} {K : PySem.W.Frag} {mg : Str → Option Value} {base : Heap}
theorem ok_prime_turns {f : Addr} {fd : FuncData} (F : Fun K "prime_turns" "prime_turns" sprime_turns f fd) (Er_InvalidNumber : OwnErr P w K mg base 1 "InvalidNumber" aIN "given") (F_is_integer : Own P w K mg base 2 "is_integer" 1 r_is_integer) (F_primes_of : Own P w K mg base 1 "primes_of" 1 r_primes_of) (F_turns_of_part : Own P w K mg base 8 "turns_of_part" 2 r_turns_of_part) (Pr_size : OwnProp P w K mg base 1 aG "size" r_p_size) (X_need_group : OwnX P w K mg base 3 "need_group" 1 rx_need_group ex_need_group) : FnOk P w K mg base (L2.CX P w) 9 f fd ["group", "prime"] (spX K 2 rx_prime_turns ex_prime_turns) := by
  have sc := scprime_turns
  refine F.okX sc (fun vs H Q E h => spX_len h) (fun cdv A outer s H vs Q E hr h => ?_)
  refine ⟨tSeq (tDrop (tCall (spX K 1 rx_need_group ex_need_group) [] E (tCons (tVar 0) (tNil)))) (tSeq (tIfS (tOr (tNot (tB (tCall (spD K 1 r_is_integer) [] E0 (tCons (tVar 1) (tNil))))) (tTest (tOp (rIn K true) (tVar 1) (tCall (spD K 1 r_primes_of) [] E0 (tCons (tProp aG (spD K 1 r_p_size) [] E0 (tVar 0)) (tNil)))))) ((fun _ σ H => tMkE aIN "given" (tCons (tVar 1) (tNil)) σ H fun cls d H' => E cls d H')) (tNext)) (tRet (tCall (spD K 2 r_turns_of_part) [] E0 (tCons (tVar 0) (tCons (tVar 1) (tNil)))))), pss_cons (ps_expr (pe_call X_need_group.F (hr.mono (by decide)) rfl X_need_group.g X_need_group.k X_need_group.b .nil (passX (takes_of rfl rfl rfl rfl)) (pa_cons (pv 0) (pa_nil)))) (pss_cons (ps_if (PW.pt (pw_or (pt_not (pt_val (pe_call F_is_integer.F (hr.mono (by decide)) rfl F_is_integer.g F_is_integer.k F_is_integer.b .nil pass0 (pa_cons (pv 1) (pa_nil))) (fun _ => rfl))) (pw_or1 (pt_cmpR op_notIn_seq (pv 1) (pe_call F_primes_of.F (hr.mono (by decide)) rfl F_primes_of.g F_primes_of.k F_primes_of.b .nil pass0 (pa_cons (pe_prop (pv 0) Pr_size.c Pr_size.h Pr_size.F (hr.mono (by decide)) Pr_size.b .nil pass0 (by rfl)) (pa_nil))) (by rfl))))) (pss_one (ps_raise rfl (takes_of rfl rfl rfl rfl) (pmk_err Er_InvalidNumber.T Er_InvalidNumber.iC Er_InvalidNumber.tI Er_InvalidNumber.F (hr.mono (by decide)) Er_InvalidNumber.b rfl Er_InvalidNumber.g (pa_cons (pv 1) (pa_nil))))) (pss_nil)) (pss_one (ps_ret (pe_call F_turns_of_part.F (hr.mono (by decide)) rfl F_turns_of_part.g F_turns_of_part.k F_turns_of_part.b .nil pass0 (pa_cons (pv 0) (pa_cons (pv 1) (pa_nil))))))), ?_⟩
  exact body_endX (m := mprime_turns) (e := meprime_turns) h (fun F0 H0 => sx_seq (sx_expr (ex_callX (ax_cons (ex_var 0) (ax_nil))).b) (sx_seq (sx_if (tx_or (tx_not (tx_b ((ex_call (ax_cons (ex_var 1) (ax_nil))).b))) (tx_test (ex_op op_inF (bx_var 1) ((ex_call (ax_cons (ex_prop (ex_var 0)) (ax_nil))).b)).b)) (sx_stop) (sx_next)) (sx_ret (ex_call (ax_cons (ex_var 0) (ax_cons (ex_var 1) (ax_nil))))))) (fun F0 H0 => sxe_seq (sxe_expr (exe_call (ax_cons (ex_var 0) (ax_nil)))) (sx_expr (ex_callX (ax_cons (ex_var 0) (ax_nil))).b) (sxe_seq (sxe_if (tx_or (tx_not (tx_b ((ex_call (ax_cons (ex_var 1) (ax_nil))).b))) (tx_test (ex_op op_inF (bx_var 1) ((ex_call (ax_cons (ex_prop (ex_var 0)) (ax_nil))).b)).b)) (sxe_raise (ax_cons (ex_var 1) (ax_nil))) (sxe_no)) (sx_if (tx_or (tx_not (tx_b ((ex_call (ax_cons (ex_var 1) (ax_nil))).b))) (tx_test (ex_op op_inF (bx_var 1) ((ex_call (ax_cons (ex_prop (ex_var 0)) (ax_nil))).b)).b)) (sx_stop) (sx_next)) (sxe_no)))
end
abbrev sneed_paper : Stmt := top 58
theorem scneed_paper : FnScope ["group", "paper"] ["group"] (defScope sneed_paper) := ⟨rfl, rfl, rfl, by decide +kernel, rfl, by decide +kernel, by decide +kernel⟩
def mneed_paper : M Fl := mSeq (mAsg (mCall 1 r_plain_paper (mCons (mFro 0) (mNil))) (stN 1)) (mSeq (mIf (mBool (m2 (fun d e => if nonD e then fIsN false d else none) (mAny 1) (mC .non))) (mStop) (mNext)) (mRet (mFro 1)))
def meneed_paper : M Er := mSeqE (mNoE) (mAsg (mCall 1 r_plain_paper (mCons (mFro 0) (mNil))) (stN 1)) (mSeqE (mIfEr (mBool (m2 (fun d e => if nonD e then fIsN false d else none) (mAny 1) (mC .non))) (mRaiseE aR "reason" (mCons (mTup (mCons (mC (.str "bar")) (mNil))) (mNil))) (mNoE)) (mIf (mBool (m2 (fun d e => if nonD e then fIsN false d else none) (mAny 1) (mC .non))) (mStop) (mNext)) (mNoE))
def rx_need_paper : List D → Option D := runD 2 mneed_paper
def ex_need_paper : List D → Option Er := runE 2 meneed_paper
section
variable {P : Program} {w : World} {K : PySem.W.Frag} {mg : Str → Option Value} {base : Heap}
theorem ok_need_paper {f : Addr} {fd : FuncData} (F : Fun K "need_paper" "need_paper" sneed_paper f fd) (Er_Refused : OwnErr P w K mg base 1 "Refused" aR "reason") (F_plain_paper : Own P w K mg base 6 "plain_paper" 1 r_plain_paper) : FnOk P w K mg base (L2.CX P w) 7 f fd ["group"] (spX K 1 rx_need_paper ex_need_paper) := by
  have sc := scneed_paper
  refine F.okX sc (fun vs H Q E h => spX_len h) (fun cdv A outer s H vs Q E hr h => ?_)
  refine ⟨tSeq (tAsg (tCall (spD K 1 r_plain_paper) [] E0 (tCons (tVar 0) (tNil))) (gName 1)) (tSeq (tIfS (tTest (tOp rIsN (tVar 1) (tC .non))) ((fun _ σ H => tMkE aR "reason" (tCons (tTup (tCons (tC (.str "bar")) (tNil))) (tNil)) σ H fun cls d H' => E cls d H')) (tNext)) (tRet (tVar 1))), pss_cons (ps_set (i := 1) sc.nd rfl (.inl rfl) (pe_call F_plain_paper.F (hr.mono (by decide)) rfl F_plain_paper.g F_plain_paper.k F_plain_paper.b .nil pass0 (pa_cons (pv 0) (pa_nil)))) (pss_cons (ps_if (pt_cmpR op_isN1 (pv 1) (pe_non) (nomark _)) (pss_one (ps_raise rfl (takes_of rfl rfl rfl rfl) (pmk_err Er_Refused.T Er_Refused.iC Er_Refused.tI Er_Refused.F (hr.mono (by decide)) Er_Refused.b rfl Er_Refused.g (pa_cons (pe_tup (pa_cons (pe_str) (pa_nil))) (pa_nil))))) (pss_nil)) (pss_one (ps_ret (pv 1)))), ?_⟩
  exact body_endX (m := mneed_paper) (e := meneed_paper) h (fun F0 H0 => sx_seq (sx_asg (ex_call (ax_cons (ex_var 0) (ax_nil))) (gx_name 1)) (sx_seq (sx_if (tx_test (ex_op op_isB (bx_var 1) (ex_non.b)).b) (sx_stop) (sx_next)) (sx_ret (ex_var 1)))) (fun F0 H0 => sxe_seq (sxe_no) (sx_asg (ex_call (ax_cons (ex_var 0) (ax_nil))) (gx_name 1)) (sxe_seq (sxe_if (tx_test (ex_op op_isB (bx_var 1) (ex_non.b)).b) (sxe_raise (ax_cons (ex_tup (ax_cons (ex_str "bar") (ax_nil))) (ax_nil))) (sxe_no)) (sx_if (tx_test (ex_op op_isB (bx_var 1) (ex_non.b)).b) (sx_stop) (sx_next)) (sxe_no)))
end
abbrev sagain_step : Stmt := top 59
theorem scagain_step : FnScope ["group", "step", "entry"] ["group"] (defScope sagain_step) := ⟨rfl, rfl, rfl, by decide +kernel, rfl, by decide +kernel, by decide +kernel⟩
def magain_step : M Fl := mSeq ((fun δ => ((mCall 1 rx_need_group (mCons (mFro 0) (mNil))) δ).map fun _ => .nx δ)) (mSeq (mAsg (mC (.int 2)) (stN 1)) (mSeq (mFor (mItT (mCall 1 rx_need_paper (mCons (mFro 0) (mNil)))) (stN 2) (mIf (mBool (m2 (fB fun i j => decide (j < i)) (m2 fIx (mAny 2) (mC (.int 0))) (mC (.int 2)))) (mAsg (mB (f2 fLcm) (mCons (mAny 1) (mCons (m2 (fI cMul fun i j => i * j) (mC (.int 2)) (mCall 2 r_turns_of_part (mCons (mFro 0) (mCons (m2 fIx (mAny 2) (mC (.int 0))) (mNil))))) (mNil)))) (stN 1)) (mIf (mBool (m2 (fEq false) (m2 fIx (mAny 2) (mC (.int 1))) (mC (.str "eight")))) (mAsg (mB (f2 fLcm) (mCons (mAny 1) (mCons (mC (.int 4)) (mNil)))) (stN 1)) (mNext)))) (mRet (mFro 1))))
def meagain_step : M Er := mSeqE (mCallE 1 ex_need_group (mCons (mFro 0) (mNil))) ((fun δ => ((mCall 1 rx_need_group (mCons (mFro 0) (mNil))) δ).map fun _ => .nx δ)) (mSeqE (mNoE) (mAsg (mC (.int 2)) (stN 1)) (mSeqE (mCallE 1 ex_need_paper (mCons (mFro 0) (mNil))) (mFor (mItT (mCall 1 rx_need_paper (mCons (mFro 0) (mNil)))) (stN 2) (mIf (mBool (m2 (fB fun i j => decide (j < i)) (m2 fIx (mAny 2) (mC (.int 0))) (mC (.int 2)))) (mAsg (mB (f2 fLcm) (mCons (mAny 1) (mCons (m2 (fI cMul fun i j => i * j) (mC (.int 2)) (mCall 2 r_turns_of_part (mCons (mFro 0) (mCons (m2 fIx (mAny 2) (mC (.int 0))) (mNil))))) (mNil)))) (stN 1)) (mIf (mBool (m2 (fEq false) (m2 fIx (mAny 2) (mC (.int 1))) (mC (.str "eight")))) (mAsg (mB (f2 fLcm) (mCons (mAny 1) (mCons (mC (.int 4)) (mNil)))) (stN 1)) (mNext)))) (mNoE)))
def rx_again_step : List D → Option D := runD 3 magain_step
def ex_again_step : List D → Option Er := runE 3 meagain_step
section
variable {P : Program} {w : World} {K : PySem.W.Frag} {mg : Str → Option Value} {base : Heap}
theorem ok_again_step {f : Addr} {fd : FuncData} (F : Fun K "again_step" "again_step" sagain_step f fd) (F_turns_of_part : Own P w K mg base 8 "turns_of_part" 2 r_turns_of_part) (X_need_group : OwnX P w K mg base 3 "need_group" 1 rx_need_group ex_need_group) (X_need_paper : OwnX P w K mg base 7 "need_paper" 1 rx_need_paper ex_need_paper) (g_lcm : mg "lcm" = some (.builtin "math.lcm")) : FnOk P w K mg base (L2.CX P w) 9 f fd ["group"] (spX K 1 rx_again_step ex_again_step) := by
  have sc := scagain_step
  refine F.okX sc (fun vs H Q E h => spX_len h) (fun cdv A outer s H vs Q E hr h => ?_)
  refine ⟨tSeq (tDrop (tCall (spX K 1 rx_need_group ex_need_group) [] E (tCons (tVar 0) (tNil)))) (tSeq (tAsg (tC (.int 2)) (gName 1)) (tSeq (tFor (iTup K (tCall (spX K 1 rx_need_paper ex_need_paper) [] E (tCons (tVar 0) (tNil)))) (gName 2) (tIfS (tTest (tOp (rI0 fun i j => V.bl (decide (j < i))) (tOp (rIx K) (tVar 2) (tC (.int 0))) (tC (.int 2)))) (tAsg (tCB rLcm (tCons (tVar 1) (tCons (tOp (rI CMul fun i j => V.int (i * j)) (tC (.int 2)) (tCall (spD K 2 r_turns_of_part) [] E0 (tCons (tVar 0) (tCons (tOp (rIx K) (tVar 2) (tC (.int 0))) (tNil))))) (tNil)))) (gName 1)) (tIfS (tTest (tOp (rEqD K) (tOp (rIx K) (tVar 2) (tC (.int 1))) (tC (.str "eight")))) (tAsg (tCB rLcm (tCons (tVar 1) (tCons (tC (.int 4)) (tNil)))) (gName 1)) (tNext)))) (tRet (tVar 1)))), pss_cons (ps_expr (pe_call X_need_group.F (hr.mono (by decide)) rfl X_need_group.g X_need_group.k X_need_group.b .nil (passX (takes_of rfl rfl rfl rfl)) (pa_cons (pv 0) (pa_nil)))) (pss_cons (ps_set (i := 1) sc.nd rfl (.inl rfl) (pe_int)) (pss_cons (ps_for PassesOwn.leaving rfl (pi_tup (pe_call X_need_paper.F (hr.mono (by decide)) rfl X_need_paper.g X_need_paper.k X_need_paper.b .nil (passX (takes_of rfl rfl rfl rfl)) (pa_cons (pv 0) (pa_nil)))) (pg_name (i := 2) sc.nd rfl (.inl rfl)) (pss_one (ps_if (pt_cmpR op_gt (pe_ix ix_seq (pv 2) (pe_int) (fun _ _ => rfl)) (pe_int) (nomark _)) (pss_one (ps_set (i := 1) sc.nd rfl (.inl rfl) (pe_callBfun call_lcm rfl g_lcm (pa_cons (pv 1) (pa_cons (pe_op op_mul (pe_int) (pe_call F_turns_of_part.F (hr.mono (by decide)) rfl F_turns_of_part.g F_turns_of_part.k F_turns_of_part.b .nil pass0 (pa_cons (pv 0) (pa_cons (pe_ix ix_seq (pv 2) (pe_int) (fun _ _ => rfl)) (pa_nil))))) (pa_nil)))))) (pss_one (ps_if (pt_cmpR (op_eqD (hu64 hr)) (pe_ix ix_seq (pv 2) (pe_int) (fun _ _ => rfl)) (pe_str) (nomark _)) (pss_one (ps_set (i := 1) sc.nd rfl (.inl rfl) (pe_callBfun call_lcm rfl g_lcm (pa_cons (pv 1) (pa_cons (pe_int) (pa_nil)))))) (pss_nil)))))) (pss_one (ps_ret (pv 1))))), ?_⟩
  exact body_endX (m := magain_step) (e := meagain_step) h (fun F0 H0 => sx_seq (sx_expr (ex_callX (ax_cons (ex_var 0) (ax_nil))).b) (sx_seq (sx_asg (ex_int 2) (gx_name 1)) (sx_seq (sx_for (wx_tup (ex_callX (ax_cons (ex_var 0) (ax_nil)))) (gx_name 2) (sx_if (tx_test (ex_op op_rB ((ex_ix (bx_var 2) ((ex_int 0).b)).b) ((ex_int 2).b)).b) (sx_asg (ex_cb bLcm (ab_cons (bx_var 1) (ab_cons ((ex_op (op_rI cMul_ok) ((ex_int 2).b) ((ex_call (ax_cons (ex_var 0) (ax_cons (ex_ix (bx_var 2) ((ex_int 0).b)) (ax_nil)))).b)).b) (ab_nil)))) (gx_name 1)) (sx_if (tx_test (ex_op op_eqB ((ex_ix (bx_var 2) ((ex_int 1).b)).b) ((ex_str "eight").b)).b) (sx_asg (ex_cb bLcm (ab_cons (bx_var 1) (ab_cons ((ex_int 4).b) (ab_nil)))) (gx_name 1)) (sx_next)))) (sx_ret (ex_var 1))))) (fun F0 H0 => sxe_seq (sxe_expr (exe_call (ax_cons (ex_var 0) (ax_nil)))) (sx_expr (ex_callX (ax_cons (ex_var 0) (ax_nil))).b) (sxe_seq (sxe_no) (sx_asg (ex_int 2) (gx_name 1)) (sxe_seq (sxe_for (exe_call (ax_cons (ex_var 0) (ax_nil)))) (sx_for (wx_tup (ex_callX (ax_cons (ex_var 0) (ax_nil)))) (gx_name 2) (sx_if (tx_test (ex_op op_rB ((ex_ix (bx_var 2) ((ex_int 0).b)).b) ((ex_int 2).b)).b) (sx_asg (ex_cb bLcm (ab_cons (bx_var 1) (ab_cons ((ex_op (op_rI cMul_ok) ((ex_int 2).b) ((ex_call (ax_cons (ex_var 0) (ax_cons (ex_ix (bx_var 2) ((ex_int 0).b)) (ax_nil)))).b)).b) (ab_nil)))) (gx_name 1)) (sx_if (tx_test (ex_op op_eqB ((ex_ix (bx_var 2) ((ex_int 1).b)).b) ((ex_str "eight").b)).b) (sx_asg (ex_cb bLcm (ab_cons (bx_var 1) (ab_cons ((ex_int 4).b) (ab_nil)))) (gx_name 1)) (sx_next)))) (sxe_no))))
end
abbrev slist_again : Stmt := top 61
theorem sclist_again : FnScope ["group", "number", "paper", "entry", "size"] ["group", "number"] (defScope slist_again) := ⟨rfl, rfl, rfl, by decide +kernel, rfl, by decide +kernel, by decide +kernel⟩
def mlist_again : M Fl := mSeq ((fun δ => ((mCall 1 rx_need_group (mCons (mFro 0) (mNil))) δ).map fun _ => .nx δ)) (mSeq (mIf (mOr (mNot (mBool (mCall 1 r_is_integer (mCons (mFro 1) (mNil))))) (mBool (m2 (fB fun i j => decide (i < j)) (mAny 1) (mC (.int 1))))) (mStop) (mNext)) (mSeq (mAsg (mCall 1 rx_need_paper (mCons (mFro 0) (mNil))) (stN 2)) (mSeq (mIf (mTru (m2 (fI cPos fun i j => i % j) (mAny 1) (mC (.int 2)))) (mRet (mTup (mNil))) (mNext)) (mRet (mCall 1 r_chain_of (mCons (mLc2 [3, 4] (mItT (mFro 2)) (stN 3) (fun _ => some true) [4] (mItL (mCall 3 r_sizes_for (mCons (mFro 0) (mCons (mFro 3) (mCons (m2 (fI cDiv fun i j => i / j) (mAny 1) (mC (.int 2))) (mNil)))))) (stN 4) (fun _ => some true) (mFro 4)) (mNil)))))))
def melist_again : M Er := mSeqE (mCallE 1 ex_need_group (mCons (mFro 0) (mNil))) ((fun δ => ((mCall 1 rx_need_group (mCons (mFro 0) (mNil))) δ).map fun _ => .nx δ)) (mSeqE (mIfEr (mOr (mNot (mBool (mCall 1 r_is_integer (mCons (mFro 1) (mNil))))) (mBool (m2 (fB fun i j => decide (i < j)) (mAny 1) (mC (.int 1))))) (mRaiseE aIN "given" (mCons (mFro 1) (mNil))) (mNoE)) (mIf (mOr (mNot (mBool (mCall 1 r_is_integer (mCons (mFro 1) (mNil))))) (mBool (m2 (fB fun i j => decide (i < j)) (mAny 1) (mC (.int 1))))) (mStop) (mNext)) (mSeqE (mCallE 1 ex_need_paper (mCons (mFro 0) (mNil))) (mAsg (mCall 1 rx_need_paper (mCons (mFro 0) (mNil))) (stN 2)) (mSeqE (mIfEr (mTru (m2 (fI cPos fun i j => i % j) (mAny 1) (mC (.int 2)))) (mNoE) (mNoE)) (mIf (mTru (m2 (fI cPos fun i j => i % j) (mAny 1) (mC (.int 2)))) (mRet (mTup (mNil))) (mNext)) (mNoE))))
def rx_list_again : List D → Option D := runD 5 mlist_again
def ex_list_again : List D → Option Er := runE 5 melist_again
section
variable {P : Program} {w : World} {K : PySem.W.Frag} {mg : Str → Option Value} {base : Heap}
theorem ok_list_again {f : Addr} {fd : FuncData} (F : Fun K "list_again" "list_again" slist_again f fd) (Er_InvalidNumber : OwnErr P w K mg base 1 "InvalidNumber" aIN "given") (F_chain_of : Own P w K mg base 1 "chain_of" 1 r_chain_of) (F_is_integer : Own P w K mg base 2 "is_integer" 1 r_is_integer) (F_sizes_for : Own P w K mg base 9 "sizes_for" 3 r_sizes_for) (X_need_group : OwnX P w K mg base 3 "need_group" 1 rx_need_group ex_need_group) (X_need_paper : OwnX P w K mg base 7 "need_paper" 1 rx_need_paper ex_need_paper) : FnOk P w K mg base (L2.CX P w) 10 f fd ["group", "number"] (spX K 2 rx_list_again ex_list_again) := by
  have sc := sclist_again
  refine F.okX sc (fun vs H Q E h => spX_len h) (fun cdv A outer s H vs Q E hr h => ?_)
  refine ⟨tSeq (tDrop (tCall (spX K 1 rx_need_group ex_need_group) [] E (tCons (tVar 0) (tNil)))) (tSeq (tIfS (tOr (tNot (tB (tCall (spD K 1 r_is_integer) [] E0 (tCons (tVar 1) (tNil))))) (tTest (tOp (rI0 fun i j => V.bl (decide (i < j))) (tVar 1) (tC (.int 1))))) ((fun _ σ H => tMkE aIN "given" (tCons (tVar 1) (tNil)) σ H fun cls d H' => E cls d H')) (tNext)) (tSeq (tAsg (tCall (spX K 1 rx_need_paper ex_need_paper) [] E (tCons (tVar 0) (tNil))) (gName 2)) (tSeq (tIfS (fun σ H Q => (tOp (rI (fun _ j => 0 < j) fun i j => V.int (i % j)) (tVar 1) (tC (.int 2))) σ H fun x H' => ∃ k, TruV K x H' k ∧ Q k H') (tRet (tTup (tNil))) (tNext)) (tRet (tCall (spD K 1 r_chain_of) [] E0 (tCons (tLc2 (iTup K (tVar 2)) (gName 3) (tYes) (iList K (tCall (spD K 3 r_sizes_for) [] E0 (tCons (tVar 0) (tCons (tVar 3) (tCons (tOp (rI CDiv fun i j => V.int (i / j)) (tVar 1) (tC (.int 2))) (tNil)))))) (gName 4) (tYes) (tVar 4) [3, 4] [4]) (tNil))))))), pss_cons (ps_expr (pe_call X_need_group.F (hr.mono (by decide)) rfl X_need_group.g X_need_group.k X_need_group.b .nil (passX (takes_of rfl rfl rfl rfl)) (pa_cons (pv 0) (pa_nil)))) (pss_cons (ps_if (PW.pt (pw_or (pt_not (pt_val (pe_call F_is_integer.F (hr.mono (by decide)) rfl F_is_integer.g F_is_integer.k F_is_integer.b .nil pass0 (pa_cons (pv 1) (pa_nil))) (fun _ => rfl))) (pw_or1 (pt_cmpR op_lt (pv 1) (pe_int) (nomark _))))) (pss_one (ps_raise rfl (takes_of rfl rfl rfl rfl) (pmk_err Er_InvalidNumber.T Er_InvalidNumber.iC Er_InvalidNumber.tI Er_InvalidNumber.F (hr.mono (by decide)) Er_InvalidNumber.b rfl Er_InvalidNumber.g (pa_cons (pv 1) (pa_nil))))) (pss_nil)) (pss_cons (ps_set (i := 2) sc.nd rfl (.inl rfl) (pe_call X_need_paper.F (hr.mono (by decide)) rfl X_need_paper.g X_need_paper.k X_need_paper.b .nil (passX (takes_of rfl rfl rfl rfl)) (pa_cons (pv 0) (pa_nil)))) (pss_cons (ps_if (pt_truth (pe_op op_mod (pv 1) (pe_int)) (fun _ => rfl)) (pss_one (ps_ret (pe_tup (pa_nil)))) (pss_nil)) (pss_one (ps_ret (pe_call F_chain_of.F (hr.mono (by decide)) rfl F_chain_of.g F_chain_of.k F_chain_of.b .nil pass0 (pa_cons (pe_lc2 (own := [("entry", 3), ("size", 4)]) (vs1 := [4]) rfl sc.nd (pi_tup (pv 2)) (blkOk_by (by rfl)) (by simp) (fun _ _ _ _ _ => pg_name (i := 3) sc.nd rfl (.inl rfl)) (fun _ _ _ _ _ => pts_nil) (fun _ _ _ _ _ => pi_list (pe_call F_sizes_for.F (hr.mono (by decide)) rfl F_sizes_for.g F_sizes_for.k F_sizes_for.b .nil pass0 (pa_cons (pv 0) (pa_cons (pv 3) (pa_cons (pe_op op_fdiv (pv 1) (pe_int)) (pa_nil)))))) (fun _ _ _ _ _ => pg_name (i := 4) sc.nd rfl (.inl rfl)) (fun _ _ _ _ _ => pts_nil) (fun _ _ _ _ _ => pv 4)) (pa_nil)))))))), ?_⟩
  exact body_endX (m := mlist_again) (e := melist_again) h (fun F0 H0 => sx_seq (sx_expr (ex_callX (ax_cons (ex_var 0) (ax_nil))).b) (sx_seq (sx_if (tx_or (tx_not (tx_b ((ex_call (ax_cons (ex_var 1) (ax_nil))).b))) (tx_test (ex_op op_rB (bx_var 1) ((ex_int 1).b)).b)) (sx_stop) (sx_next)) (sx_seq (sx_asg (ex_callX (ax_cons (ex_var 0) (ax_nil))) (gx_name 2)) (sx_seq (sx_if (tx_tru ((ex_op (op_rI cPos_ok) (bx_var 1) ((ex_int 2).b)).b)) (sx_ret (ex_tup (ax_nil))) (sx_next)) (sx_ret (ex_call (ax_cons ((ox_lc2 (wx_tup (ex_var 2)) (gw_in 3 [3, 4]) (keeps_stN 3) (tx_yes) (wx_list (ex_call (ax_cons (ex_var 0) (ax_cons (ex_var 3) (ax_cons (ex_op (op_rI cDiv_ok) (bx_var 1) ((ex_int 2).b)) (ax_nil)))))) (gw_name 4) (keeps_stN 4) (tx_yes) (ex_var 4)).x) (ax_nil)))))))) (fun F0 H0 => sxe_seq (sxe_expr (exe_call (ax_cons (ex_var 0) (ax_nil)))) (sx_expr (ex_callX (ax_cons (ex_var 0) (ax_nil))).b) (sxe_seq (sxe_if (tx_or (tx_not (tx_b ((ex_call (ax_cons (ex_var 1) (ax_nil))).b))) (tx_test (ex_op op_rB (bx_var 1) ((ex_int 1).b)).b)) (sxe_raise (ax_cons (ex_var 1) (ax_nil))) (sxe_no)) (sx_if (tx_or (tx_not (tx_b ((ex_call (ax_cons (ex_var 1) (ax_nil))).b))) (tx_test (ex_op op_rB (bx_var 1) ((ex_int 1).b)).b)) (sx_stop) (sx_next)) (sxe_seq (sxe_asg (exe_call (ax_cons (ex_var 0) (ax_nil)))) (sx_asg (ex_callX (ax_cons (ex_var 0) (ax_nil))) (gx_name 2)) (sxe_seq (sxe_if (tx_tru ((ex_op (op_rI cPos_ok) (bx_var 1) ((ex_int 2).b)).b)) (sxe_no) (sxe_no)) (sx_if (tx_tru ((ex_op (op_rI cPos_ok) (bx_var 1) ((ex_int 2).b)).b)) (sx_ret (ex_tup (ax_nil))) (sx_next)) (sxe_no)))))
end
end K77

namespace K77
open PySem PySem.Spec PyProof.Rows L2 DL DN DX DG DZ LamX
section
variable {P : Program} {w : World} {K : PySem.W.Frag} {mg : Str → Option Value} {base : Heap}
abbrev slaw_dice : Stmt := top 64
abbrev slaw_roll : Stmt := top 65
abbrev slaw_one_of : Stmt := top 66
theorem sclaw_dice : FnScope ["_law_script", "_law_at", "_law_cell", "_law_great", "_law_left", "_law_mixed"] ["_law_script", "_law_at"] (defScope slaw_dice) := ⟨rfl, rfl, rfl, by decide +kernel, rfl, by decide +kernel, by decide +kernel⟩
theorem sclaw_roll : FnScope ["_law_dice_here", "_law_total", "_law_size", "_law_drawn", "_law_one", "_law_two"] ["_law_dice_here", "_law_total"] (defScope slaw_roll) := ⟨rfl, rfl, rfl, by decide +kernel, rfl, by decide +kernel, by decide +kernel⟩
theorem sclaw_one_of : FnScope ["_law_dice_here", "_law_items"] ["_law_dice_here", "_law_items"] (defScope slaw_one_of) := ⟨rfl, rfl, rfl, by decide +kernel, rfl, by decide +kernel, by decide +kernel⟩
theorem ok_law_dice {f : Addr} {fd : FuncData} (F : Fun K "_law_dice" "_law_dice" slaw_dice f fd) (z_len : mg "len" = none) (z_int : mg "int" = none) (z_abs : mg "abs" = none) : FnOk P w K mg base CX0 1 f fd ["_law_script", "_law_at"] (spDice K) := by
  have sc := sclaw_dice
  refine F.ok sc (fun vs H Q E h => by obtain ⟨b, ns, i, rfl, _⟩ := h; rfl) (fun cdv A outer s H vs Q E hr h => ⟨t_dice K, ?_, pure_dice vs H Q E h⟩)
  exact pss_cons (ps_set (i := 2) sc.nd rfl (.inl rfl) (pe_op op_add (pe_op op_mul pe_int (pv 1)) pe_int)) <|
    pss_cons (ps_if (pt_cmpR op_lt (pv 1) (pe_callB hLenQ rfl z_len (by decide +kernel) (pa_cons (pv 0) pa_nil)) (nomark _)) (pss_one (ps_set (i := 2) sc.nd rfl (.inl rfl) (pe_ix ix_seq (pv 0) (pv 1) (fun _ _ => rfl)))) pss_nil) <|
    pss_cons (ps_set (i := 3) sc.nd rfl (.inl rfl) (pe_op op_mod (pe_callTy hInt1 rfl z_int (by decide +kernel) (pa_cons (pe_callB hAbs rfl z_abs (by decide +kernel) (pa_cons (pv 2) pa_nil)) pa_nil)) (pe_op op_powW (pe_op op_powW pe_int pe_int) pe_int))) <|
    pss_cons (ps_set (i := 4) sc.nd rfl (.inl rfl) (pe_op op_fdivW (pv 3) (pe_op op_powW pe_int pe_int))) <|
    pss_cons (ps_set (i := 5) sc.nd rfl (.inl rfl) (pe_op op_add (pe_op op_add (pe_op op_add (pe_op op_mul (pe_op op_mod (pv 3) pe_int) pe_int) (pe_op op_mul pe_int (pv 1))) (pe_op op_mul pe_int (pe_callTy hInt1 rfl z_int (by decide +kernel) (pa_cons (pe_cmpR op_lt (pv 2) pe_int (nomark _)) pa_nil)))) pe_int)) <|
    pss_one (ps_ret (pe_lst (pa_cons (pv 4) (pa_cons (pe_op op_mod (pv 5) pe_int) (pa_cons pe_int pa_nil)))))
theorem ok_law_roll {f : Addr} {fd : FuncData} (F : Fun K "_law_roll" "_law_roll" slaw_roll f fd) (z_int : mg "int" = none) : FnOk P w K mg base CX0 1 f fd ["_law_dice_here", "_law_total"] spRoll := by
  have sc := sclaw_roll
  refine F.ok sc (fun vs H Q E h => by obtain ⟨a, n, rfl, _⟩ := h; rfl) (fun cdv A outer s H vs Q E hr h => ⟨t_roll K, ?_, pure_roll vs H Q E h⟩)
  exact pss_cons (ps_set (i := 2) sc.nd rfl (.inl rfl) (pe_callTy hInt1 rfl z_int (by decide +kernel) (pa_cons (pv 1) pa_nil))) <|
    pss_cons (ps_if (pt_cmpR op_gt (pe_ix ix_seq (pv 0) pe_int (fun _ _ => rfl)) pe_int (nomark _))
      (pss_cons (ps_set (i := 3) sc.nd rfl (.inl rfl) (pe_op op_mod (pe_ix ix_seq (pv 0) pe_int (fun _ _ => rfl)) (pv 2))) <|
        pss_cons (ps_asg (pe_op op_fdiv (pe_ix ix_seq (pv 0) pe_int (fun _ _ => rfl)) (pv 2)) (pg_sub (pv 0) pe_int set_list)) <|
        pss_one (ps_ret (pe_callTy hInt1 rfl z_int (by decide +kernel) (pa_cons (pv 3) pa_nil)))) pss_nil) <|
    pss_cons (ps_asg (pe_op op_add (pe_ix ix_seq (pv 0) pe_int (fun _ _ => rfl)) pe_int) (pg_sub (pv 0) pe_int set_list)) <|
    pss_cons (ps_set (i := 4) sc.nd rfl (.inl rfl) (pe_op op_mod (pe_op op_add (pe_ix ix_seq (pv 0) pe_int (fun _ _ => rfl)) (pe_op op_mul pe_int (pe_ix ix_seq (pv 0) pe_int (fun _ _ => rfl)))) pe_int)) <|
    pss_cons (ps_set (i := 5) sc.nd rfl (.inl rfl) (pe_op op_add (pe_op op_mul (pe_op op_mod (pe_op op_mul (pv 4) (pv 4)) pe_int) (pv 4)) (pe_op op_mul pe_int (pe_ix ix_seq (pv 0) pe_int (fun _ _ => rfl))))) <|
    pss_cons (ps_set (i := 5) sc.nd rfl (.inl rfl) (pe_op op_mod (pv 5) pe_int)) <|
    pss_one (ps_ret (pe_callTy hInt1 rfl z_int (by decide +kernel) (pa_cons (pe_op op_mod (pe_op op_fdiv (pv 5) pe_int) (pv 2)) pa_nil)))
/-- a def with a promise of its own -/
structure OwnS (P : Program) (w : World) (K : PySem.W.Frag) (mg : Str → Option Value) (base : Heap) (lvl : Nat) (x : Str) (sp : Sp) where
  f : Addr
  fd : FuncData
  ps : List Str
  F : FnOk P w K mg base CX0 lvl f fd ps sp
  g : mg x = some (.ref f)
  k : PySem.W.keepIn K (.ref f) = true
  b : Binds K fd ps []
theorem ok_law_one_of {f : Addr} {fd : FuncData} (F : Fun K "_law_one_of" "_law_one_of" slaw_one_of f fd) (Fr : OwnS P w K mg base 1 "_law_roll" spRoll) (z_len : mg "len" = none) : FnOk P w K mg base CX0 2 f fd ["_law_dice_here", "_law_items"] (spOne K) := by
  have sc := sclaw_one_of
  refine F.ok sc (fun vs H Q E h => by obtain ⟨a, b, xs, rfl, _⟩ := h; rfl) (fun cdv A outer s H vs Q E hr h => ⟨_, ?_, pure_one vs H Q E h⟩)
  exact pss_one (ps_ret (pe_ix ix_seq (pv 1) (pe_call Fr.F (hr.mono (by decide)) rfl Fr.g Fr.k Fr.b .nil pass0 (pa_cons (pv 0) (pa_cons (pe_callB hLenQ rfl z_len (by decide +kernel) (pa_cons (pv 1) pa_nil)) pa_nil))) (fun _ _ => rfl)))
def t_rollW (K : PySem.W.Frag) : TS :=
  tSeq (tAsg (tCB rInt1 (tCons (tVar 1) tNil)) (gName 2)) <|
  tSeq (tIfS (tTest (tOp (rI0 fun i j => .bl (decide (j < i))) (tAt K 0 0) (tC (.int 0))))
    (tSeq (tAsg (tOp rMod (tAt K 0 0) (tVar 2)) (gName 3)) <| tSeq (sAt 0 0 (tOp rDivW (tAt K 0 0) (tVar 2))) <| tRet (tCB rInt1 (tCons (tVar 3) tNil))) tNext) <|
  tSeq (sAt 0 2 (tOp DN.rAdd (tAt K 0 2) (tC (.int 1)))) <|
  tSeq (tAsg (tOp rMod (tOp DN.rAdd (tAt K 0 1) (tOp rMul (tC (.int 1000381)) (tAt K 0 2))) (tC (.int 2305843009213693951))) (gName 4)) <|
  tSeq (tAsg (tOp DN.rAdd (tOp rMul (tOp rMod (tOp rMul (tVar 4) (tVar 4)) (tC (.int 2305843009213693921))) (tVar 4)) (tOp rMul (tC (.int 9497)) (tAt K 0 2))) (gName 5)) <|
  tSeq (tAsg (tOp rMod (tVar 5) (tC (.int 2305843009213693907))) (gName 5)) <|
  tRet (tCB rInt1 (tCons (tOp rMod (tOp rDiv (tVar 5) (tC (.int 4096))) (tVar 2)) tNil))
theorem cdiv_le {i n : Int} (h0 : 0 < n) (h1 : n ≤ 10 ^ 30) : CDivW i n := by
  refine ⟨h0, ?_⟩
  have h2 : n.natAbs ≤ 10 ^ 30 := by omega
  by_cases hz : n.natAbs = 0
  · rw [hz]; decide
  · exact Nat.lt_trans ((Nat.log2_lt hz).mpr (Nat.lt_of_le_of_lt h2 (show 10 ^ 30 < 2 ^ 100 by decide))) (show 100 < 9000 by decide)
theorem pure_rollW {K : PySem.W.Frag} (vs : List V) (H : Hp) (Q : VK) (E : XK) (h : spRollW vs H Q E) :
    t_rollW K { nx := fun _ H' => Q .non H', rt := Q } (L2.start ["_law_dice_here", "_law_total", "_law_size", "_law_drawn", "_law_one", "_law_two"] vs) H := by
  obtain ⟨a, n, rfl, ⟨l, m, c, hd⟩, h0, h1, k⟩ := h
  refine ⟨_, rfl, .inl ⟨n, rfl, ?_⟩⟩
  refine ⟨_, rfl, .inl ⟨a, _, _, _, rfl, rfl, at3 hd, atI_nat (j := 0) rfl, _, _, rfl, rfl, _, rfl, ?_⟩⟩
  by_cases hl : 0 < l
  · refine Eq.mpr (if_pos (decide_eq_true hl)) ?_
    refine ⟨_, rfl, .inl ⟨a, _, _, _, rfl, rfl, at3 hd, atI_nat (j := 0) rfl, _, rfl, _, _, rfl, rfl, h0, ?_⟩⟩
    refine ⟨_, rfl, .inl ⟨a, _, _, _, rfl, rfl, at3 hd, atI_nat (j := 0) rfl, _, rfl, _, _, rfl, rfl, cdiv_le h0 h1, _, rfl, a, _, _, 0, rfl, rfl, hd, rfl, ?_⟩⟩
    refine ⟨_, rfl, .inl ⟨_, rfl, ?_⟩⟩
    exact k _ _ (Int.emod_nonneg _ (by omega)) (Int.emod_lt_of_pos _ h0) ⟨_, _, _, upd_same⟩ (Off.refl _ _).upd
  · refine Eq.mpr (if_neg (by rw [decide_eq_false hl]; exact Bool.false_ne_true)) ?_
    refine ⟨_, rfl, .inl ⟨a, _, _, _, rfl, rfl, at3 hd, atI_nat (j := 2) rfl, _, _, rfl, rfl, _, rfl, a, _, _, 2, rfl, rfl, hd, rfl, ?_⟩⟩
    have h2 : L2.upd H a (.lst ([V.int l, .int m, .int c].set 2 (.int (c + 1)))) a = some (.lst [.int l, .int m, .int (c + 1)]) := upd_same
    generalize hH : L2.upd H a (.lst ([V.int l, .int m, .int c].set 2 (.int (c + 1)))) = H1 at h2
    have off : Off a H H1 := by rw [← hH]; exact (Off.refl _ _).upd
    have S1 := at3 (K := K) h2
    refine ⟨_, rfl, .inl ⟨a, _, _, _, rfl, rfl, S1, atI_nat (j := 1) rfl, _, rfl, .inl ⟨a, _, _, _, rfl, rfl, S1, atI_nat (j := 2) rfl, _, _, rfl, rfl, .inl ⟨by decide, by decide⟩, _, _, rfl, rfl, _, _, rfl, rfl, (show (0:Int) < 2305843009213693951 by decide), ?_⟩⟩⟩
    have b1 := Int.emod_nonneg (m + 1000381 * (c + 1)) (b := 2305843009213693951) (by decide)
    have b2 := Int.emod_lt_of_pos (m + 1000381 * (c + 1)) (b := 2305843009213693951) (by decide)
    have cm : ∀ j, CMul ((m + 1000381 * (c + 1)) % 2305843009213693951) j := fun j => .inl ⟨by omega, by omega⟩
    have cn : ∀ i : Int, CMul (i % 2305843009213693921) ((m + 1000381 * (c + 1)) % 2305843009213693951) := fun i => .inr ⟨by omega, by omega⟩
    refine ⟨_, rfl, _, rfl, _, _, rfl, rfl, cm _, _, _, rfl, rfl, (show (0:Int) < 2305843009213693921 by decide), ?_⟩
    refine ⟨_, rfl, _, _, rfl, rfl, cn _, _, rfl, .inl ⟨a, _, _, _, rfl, rfl, S1, atI_nat (j := 2) rfl, _, _, rfl, rfl, .inl ⟨by decide, by decide⟩, _, _, rfl, rfl, ?_⟩⟩
    refine ⟨_, rfl, _, _, rfl, rfl, (show (0:Int) < 2305843009213693907 by decide), ?_⟩
    refine ⟨_, rfl, _, _, rfl, rfl, ⟨by decide, by decide⟩, _, rfl, _, _, rfl, rfl, h0, .inl ⟨_, rfl, ?_⟩⟩
    exact k _ _ (Int.emod_nonneg _ (by omega)) (Int.emod_lt_of_pos _ h0) ⟨_, _, _, h2⟩ off
theorem ok_law_rollW {f : Addr} {fd : FuncData} (F : Fun K "_law_roll" "_law_roll" slaw_roll f fd) (z_int : mg "int" = none) : FnOk P w K mg base CX0 1 f fd ["_law_dice_here", "_law_total"] spRollW := by
  have sc := sclaw_roll
  refine F.ok sc (fun vs H Q E h => by obtain ⟨a, n, rfl, _⟩ := h; rfl) (fun cdv A outer s H vs Q E hr h => ⟨t_rollW K, ?_, pure_rollW vs H Q E h⟩)
  exact pss_cons (ps_set (i := 2) sc.nd rfl (.inl rfl) (pe_callTy hInt1 rfl z_int (by decide +kernel) (pa_cons (pv 1) pa_nil))) <|
    pss_cons (ps_if (pt_cmpR op_gt (pe_ix ix_seq (pv 0) pe_int (fun _ _ => rfl)) pe_int (nomark _))
      (pss_cons (ps_set (i := 3) sc.nd rfl (.inl rfl) (pe_op op_mod (pe_ix ix_seq (pv 0) pe_int (fun _ _ => rfl)) (pv 2))) <|
        pss_cons (ps_asg (pe_op op_fdivW (pe_ix ix_seq (pv 0) pe_int (fun _ _ => rfl)) (pv 2)) (pg_sub (pv 0) pe_int set_list)) <|
        pss_one (ps_ret (pe_callTy hInt1 rfl z_int (by decide +kernel) (pa_cons (pv 3) pa_nil)))) pss_nil) <|
    pss_cons (ps_asg (pe_op op_add (pe_ix ix_seq (pv 0) pe_int (fun _ _ => rfl)) pe_int) (pg_sub (pv 0) pe_int set_list)) <|
    pss_cons (ps_set (i := 4) sc.nd rfl (.inl rfl) (pe_op op_mod (pe_op op_add (pe_ix ix_seq (pv 0) pe_int (fun _ _ => rfl)) (pe_op op_mul pe_int (pe_ix ix_seq (pv 0) pe_int (fun _ _ => rfl)))) pe_int)) <|
    pss_cons (ps_set (i := 5) sc.nd rfl (.inl rfl) (pe_op op_add (pe_op op_mul (pe_op op_mod (pe_op op_mul (pv 4) (pv 4)) pe_int) (pv 4)) (pe_op op_mul pe_int (pe_ix ix_seq (pv 0) pe_int (fun _ _ => rfl))))) <|
    pss_cons (ps_set (i := 5) sc.nd rfl (.inl rfl) (pe_op op_mod (pv 5) pe_int)) <|
    pss_one (ps_ret (pe_callTy hInt1 rfl z_int (by decide +kernel) (pa_cons (pe_op op_mod (pe_op op_fdiv (pv 5) pe_int) (pv 2)) pa_nil)))
end
/-! what the law's def tells of a lambda -/
abbrev slaw_met : Stmt := top 69
theorem sclaw_met : FnScope ["_law_call", "error"] ["_law_call"] (defScope slaw_met) := ⟨rfl, rfl, rfl, by decide +kernel, rfl, by decide +kernel, by decide +kernel⟩
abbrev cls3 : List Cl := [.word aIG "group", .kept aIN "given" "number " 1, .kept aR "reason" "refused " 1]
structure MetF (K : PySem.W.Frag) (mg : Str → Option Value) (x : Str) (st : Stmt) (g : Addr) (cdv : Value) : Prop where
  hm : mg x = some (.ref g)
  hk : PySem.W.keepIn K (.ref g) = true
  lk : ∃ (oc : Value) (od : Option Addr) (kV doc pm : Value) (an : Option Addr) (ct : Value) (osl : Array (Option Value)), K.lookup g = some ⟨oc, od, .func (PySem.W.fnOf x x (defArgs st) (defBody st) (defScope st) .none kV doc pm an cdv ct), osl⟩
  hc : PySem.W.codeIn K cdv x = true
section
variable {X : Cx} {g : Addr} {cdv : Value}
theorem gives3 (gd : X.A.guards = some []) (hu : X.A.units + 300 < cLine) (gG : X.mg "InvalidGroup" = some (.ref aIG)) (gN : X.mg "InvalidNumber" = some (.ref aIN)) (gR : X.mg "Refused" = some (.ref aR)) (z_repr : X.mg "repr" = none) (TN : ErrC X.K aIN) (FN : ErrF X.K aIN "given") (TR : ErrC X.K aR) (FR : ErrF X.K aR "reason") {q : Str} :
    GivesTo X ["_law_call", "error"] "_law_met" (defScope slaw_met) g cdv (defBody slaw_met) "_law_call" q (TMet X.K "raised" "fine" cls3 ["_law_call", "error"]) := by
  refine met_gives (Ng := ["_law_call", "error"]) (fun _ => rfl) (by decide) fun f s H => ?_
  refine .plain ⟨rfl, by decide, .inl gG⟩ (fun a oe cls d pn _ _ => pss_one (ps_ret (pe_tup (pa_cons pe_str (pa_cons pe_str pa_nil))))) ?_
  refine .named (i := 1) rfl rfl ⟨rfl, by decide, .inl gN⟩ (fun a oe cls d pn hz hf => pss_one (ps_ret (pe_tup (pa_cons pe_str (pa_cons (pe_op hCatS pe_str (pe_callB (call_reprD gd (by show X.A.units + 3 + 200 < cLine; omega)) rfl z_repr (by decide +kernel) (pa_cons (pe_byE TN FN hz hf (pv 1)) pa_nil))) pa_nil))))) ?_
  refine .named (i := 1) rfl rfl ⟨rfl, by decide, .inl gR⟩ (fun a oe cls d pn hz hf => pss_one (ps_ret (pe_tup (pa_cons pe_str (pa_cons (pe_op hCatS pe_str (pe_callB (call_reprD gd (by show X.A.units + 3 + 200 < cLine; omega)) rfl z_repr (by decide +kernel) (pa_cons (pe_byE TR FR hz hf (pv 1)) pa_nil))) pa_nil))))) .nil
end
end K77

namespace K77
open PySem PySem.Spec PyProof.Rows L2 DL DN DX DG DZ LamX
/-- what is known of the def that tells what a lambda does -/
structure Met3 (K : PySem.W.Frag) (mg : Str → Option Value) (g : Addr) (cdv : Value) : Prop where
  m : MetF K mg "_law_met" slaw_met g cdv
  gG : mg "InvalidGroup" = some (.ref aIG)
  gN : mg "InvalidNumber" = some (.ref aIN)
  gR : mg "Refused" = some (.ref aR)
  zr : mg "repr" = none
  TN : ErrC K aIN
  FN : ErrF K aIN "given"
  TR : ErrC K aR
  FR : ErrF K aR "reason"
theorem hu3 {k : Nat} {A : Around} (h : Room k A) : A.units + 200 < cLine := by have := h.un; omega
abbrev TM3 (K : PySem.W.Frag) := TMet K "raised" "fine" cls3 ["_law_call", "error"]
theorem pe_met3 {X : Cx} {T : List (Addr × Str)} {g c Pt : Addr} {cdv : Value} {k : Nat} {params : Arguments} {body : Expr} {scope : Scope} {t : XK → TE} {p lpos pos : Pos} (M : Met3 X.K X.mg g cdv) (gd : X.A.guards = some []) (hg : Gl X "_law_met") (TB : TabB X.base X.mg c Pt) (hcode : X.env.code = .ref c)
    (hmT : (Pt, X.env.qual ++ "<lambda>") ∈ T) (hu : ∀ p ∈ T, p.1 = Pt → p.2 = X.env.qual ++ "<lambda>") (hr : Room (k + 10) X.A) (L : lamSB X.env.scope scope = true) (hdef : defaultsOf params X.env = ([], []))
    (hbind : ∀ (q : Str) (cl : List (Str × Addr)) (pm cv ctv : Value), bindArgs (PySem.W.kla_fn "<lambda>" q params body scope cl pm cv ctv) ⟨[], []⟩ = pure [])
    (hbody : ∀ (A : Around) (outer : List Env) (s : Shared) (H : Hp) (E : XK) (f c' : Addr), Room (k + 8) (A.deeper (lamEnv X scope s.heap.objs.size f c')) → PE (lamCx X A outer s H E scope f c') body (t E)) :
    PE X (.Call (.Name "_law_met" p) [.Lambda params body scope lpos] [] pos) (tLam T (TM3 X.K) t) := by
  obtain ⟨oc, od, kV, doc, pm, an, ct, osl, lk⟩ := M.m.lk
  exact pe_lamcall hg M.m.hm M.m.hk lk M.m.hc (Binds.all fun us hl => match us, hl with | [_], _ => rfl) sclaw_met rfl (.inl rfl) (gives3 gd (by have := hr.un; omega) M.gG M.gN M.gR M.zr M.TN M.FN M.TR M.FR) TB hcode hmT hu hr (lamS_by L) hdef hbind hbody
end K77

namespace K77
open PySem PySem.Spec PyProof.Rows L2 DL DN DX DG DZ LamX
abbrev LNm : Str := (("_law_right" ++ ".<locals>." : Str) ++ "<lambda>" : Str)
abbrev slaw_right : Stmt := top 70
abbrev slaw : Stmt := top 71
theorem sclaw_right : FnScope ["_law_dice_here", "_law_none", "_law_moves", "_law_here", "_law_barred", "_law_prime", "_law_number", "_law_words", "_law_due", "_law_word"] ["_law_dice_here"] (defScope slaw_right) := ⟨rfl, rfl, rfl, by decide +kernel, rfl, by decide +kernel, by decide +kernel⟩
/-- 0 -/
def u0 (K : PySem.W.Frag) (T : List (Addr × Str)) : TS := tAsg (tCall (spOne K) [] E0 (tCons (tVar 0) (tCons (tLst (tCons (tC .non) (tCons (tC (.int 4)) (tCons (tTup (tCons (tTup (tCons (tC (.int 1)) (tCons (tC (.int 0)) (tNil)))) (tNil))) (tCons (tC (.str "group")) (tCons (tLst (tCons (tC (.int 1)) (tNil))) (tCons (tDNewK) (tCons (tTup (tNil)) (tCons (tC (.bl true)) (tNil)))))))))) (tNil)))) (gName 1)
/-- 1 -/
def u1 (K : PySem.W.Frag) (T : List (Addr × Str)) : TS := tAsg (tCall (spO K 0 r_law_ready_moves) [] E0 (tNil)) (gName 2)
/-- 2 -/
def u2 (K : PySem.W.Frag) (T : List (Addr × Str)) : TS := tAsg (tTup (tCons (tMake aG (spSelf K aG r_self_init) [] E0 (tCons (tDGet (tVar 2) (tCall (spOne K) [] E0 (tCons (tVar 0) (tCons (tLst (tCons (tC (.str "c6")) (tCons (tC (.str "s3")) (tNil)))) (tNil))))) tNil)) (tCons (tMake aG (spSelf K aG r_self_init) [] E0 (tCons (tDGet (tVar 2) (tC (.str "v4"))) tNil)) (tNil)))) (gTup K 2 (gCons (gName 3) (gCons (gName 4) (gNil))))
/-- 3 -/
def u3 (K : PySem.W.Frag) (T : List (Addr × Str)) : TS := tAsg (tCall (spOne K) [] E0 (tCons (tVar 0) (tCons (tLst (tCons (tC .non) (tCons (tC (.int 0)) (tCons (tC (.int 1)) (tCons (tC (.int 4)) (tCons (tC (.int 5)) (tCons (tC (.int 7)) (tCons (tC (.int 6)) (tCons (tUn (rU fun i => .int (-i)) (tC (.int 2))) (tCons (tC (.bl true)) (tCons (tC (.str "2")) (tCons (tTup (tCons (tC (.int 2)) (tNil))) (tCons (tC (.int 31)) (tCons (tOp rPowW (tC (.int 10)) (tC (.int 40))) (tNil))))))))))))))) (tNil)))) (gName 5)
/-- 4 -/
def u4 (K : PySem.W.Frag) (T : List (Addr × Str)) : TS := tAsg (tCall (spOne K) [] E0 (tCons (tVar 0) (tCons (tLst (tCons (tC .non) (tCons (tC (.int 0)) (tCons (tUn (rU fun i => .int (-i)) (tC (.int 1))) (tCons (tC (.bl true)) (tCons (tC (.str "2")) (tCons (tTup (tCons (tC (.int 2)) (tNil))) (tCons (tOp rPowW (tC (.int 10)) (tC (.int 60))) (tCons (tUn (rU fun i => .int (-i)) (tOp rPowW (tC (.int 10)) (tC (.int 30)))) (tNil)))))))))) (tNil)))) (gName 6)
/-- 5 -/
def u5 (K : PySem.W.Frag) (T : List (Addr × Str)) : TS := tAsg (tLst (tCons (tLam T (TM3 K) (fun E => tCall (spX K 1 rx_bar_members ex_bar_members) [] E (tCons (tVar 1) (tNil)))) (tNil))) (gName 7)
/-- 6 -/
def u6 (K : PySem.W.Frag) (T : List (Addr × Str)) : TS := tDrop (tBM K "list" rAppend (tVar 7) (tCons (tLam T (TM3 K) (fun E => tCall (spX K 2 rx_is_bar ex_is_bar) [] E (tCons (tVar 1) (tCons (tC .non) (tNil))))) tNil))
/-- 7 -/
def u7 (K : PySem.W.Frag) (T : List (Addr × Str)) : TS := tDrop (tBM K "list" rAppend (tVar 7) (tCons (tLam T (TM3 K) (fun E => tCall (spX K 1 rx_again_paper ex_again_paper) [] E (tCons (tVar 1) (tNil)))) tNil))
/-- 8 -/
def u8 (K : PySem.W.Frag) (T : List (Addr × Str)) : TS := tDrop (tBM K "list" rAppend (tVar 7) (tCons (tLam T (TM3 K) (fun E => tCall (spX K 2 rx_is_again_paper ex_is_again_paper) [] E (tCons (tVar 1) (tCons (tTup (tNil)) (tNil))))) tNil))
/-- 9 -/
def u9 (K : PySem.W.Frag) (T : List (Addr × Str)) : TS := tDrop (tBM K "list" rAppend (tVar 7) (tCons (tLam T (TM3 K) (fun E => tCall (spX K 2 rx_prime_turns ex_prime_turns) [] E (tCons (tVar 1) (tCons (tVar 5) (tNil))))) tNil))
/-- 10 -/
def u10 (K : PySem.W.Frag) (T : List (Addr × Str)) : TS := tDrop (tBM K "list" rAppend (tVar 7) (tCons (tLam T (TM3 K) (fun E => tCall (spX K 1 rx_again_step ex_again_step) [] E (tCons (tVar 1) (tNil)))) tNil))
/-- 11 -/
def u11 (K : PySem.W.Frag) (T : List (Addr × Str)) : TS := tDrop (tBM K "list" rAppend (tVar 7) (tCons (tLam T (TM3 K) (fun E => tCall (spX K 2 rx_list_again ex_list_again) [] E (tCons (tVar 1) (tCons (tVar 6) (tNil))))) tNil))
/-- 12 -/
def u12 (K : PySem.W.Frag) (T : List (Addr × Str)) : TS := tDrop (tBM K "list" rAppend (tVar 7) (tCons (tLam T (TM3 K) (fun E => tCall (spX K 1 rx_made_commuting ex_made_commuting) [] E (tCons (tVar 1) (tNil)))) tNil))
/-- 13 -/
def u13 (K : PySem.W.Frag) (T : List (Addr × Str)) : TS := tIfS (tTest (tOp (rNeD K) (tVar 7) (tOp rRep (tLst (tCons (tTup (tCons (tC (.str "raised")) (tCons (tC (.str "group")) (tNil)))) (tNil))) (tC (.int 8))))) (tRet (tC (.bl false))) (tNext)
/-- 14 -/
def u14 (K : PySem.W.Frag) (T : List (Addr × Str)) : TS := tAsg (tLst (tCons (tLam T (TM3 K) (fun E => tCall (spX K 2 rx_prime_turns ex_prime_turns) [] E (tCons (tVar 3) (tCons (tVar 5) (tNil))))) (tNil))) (gName 7)
/-- 15 -/
def u15 (K : PySem.W.Frag) (T : List (Addr × Str)) : TS := tDrop (tBM K "list" rAppend (tVar 7) (tCons (tLam T (TM3 K) (fun E => tCall (spX K 2 rx_list_again ex_list_again) [] E (tCons (tVar 3) (tCons (tVar 6) (tNil))))) tNil))
/-- 16 -/
def u16 (K : PySem.W.Frag) (T : List (Addr × Str)) : TS := tDrop (tBM K "list" rAppend (tVar 7) (tCons (tLam T (TM3 K) (fun E => tCall (spX K 2 rx_list_again ex_list_again) [] E (tCons (tVar 4) (tCons (tVar 6) (tNil))))) tNil))
/-- 17 -/
def u17 (K : PySem.W.Frag) (T : List (Addr × Str)) : TS := tDrop (tBM K "list" rAppend (tVar 7) (tCons (tLam T (TM3 K) (fun E => tCall (spX K 2 rx_list_again ex_list_again) [] E (tCons (tVar 4) (tCons (tOp (rI0 fun i j => V.int (i + j)) (tC (.int 1)) (tCall spRollW [] E0 (tCons (tVar 0) (tCons (tOp rPowW (tC (.int 10)) (tC (.int 30))) (tNil))))) (tNil))))) tNil))
/-- 18 -/
def u18 (K : PySem.W.Frag) (T : List (Addr × Str)) : TS := tDrop (tBM K "list" rAppend (tVar 7) (tCons (tLam T (TM3 K) (fun E => tCall (spX K 1 rx_again_step ex_again_step) [] E (tCons (tVar 4) (tNil)))) tNil))
/-- 19 -/
def u19 (K : PySem.W.Frag) (T : List (Addr × Str)) : TS := tDrop (tBM K "list" rAppend (tVar 7) (tCons (tLam T (TM3 K) (fun E => tCall (spX K 2 rx_prime_turns ex_prime_turns) [] E (tCons (tVar 4) (tCons (tC (.int 2)) (tNil))))) tNil))
/-- 20 -/
def u20 (K : PySem.W.Frag) (T : List (Addr × Str)) : TS := tDrop (tBM K "list" rAppend (tVar 7) (tCons (tLam T (TM3 K) (fun E => tCall (spX K 2 rx_list_again ex_list_again) [] E (tCons (tVar 3) (tCons (tOp rPowW (tC (.int 10)) (tC (.int 59))) (tNil))))) tNil))
/-- 21 -/
def u21 (K : PySem.W.Frag) (T : List (Addr × Str)) : TS := tAsg (tOp rCat (tOp rCat (tOp rCat (tLst (tCons (tOp (rCatS) (tC (.str "number ")) (tCB (rReprD K) (tCons (tVar 5) (tNil)))) (tNil))) (tOp rRep (tLst (tCons (tOp (rCatS) (tC (.str "number ")) (tCB (rReprD K) (tCons (tVar 6) (tNil)))) (tNil))) (tC (.int 2)))) (tOp rRep (tLst (tCons (tOp (rCatS) (tC (.str "refused ")) (tCB (rReprD K) (tCons (tTup (tCons (tC (.str "bar")) (tNil))) (tNil)))) (tNil))) (tC (.int 2)))) (tOp rRep (tLst (tCons (tC (.str "fine")) (tNil))) (tC (.int 2)))) (gName 8)
/-- 22 -/
def u22 (K : PySem.W.Frag) (T : List (Addr × Str)) : TS := tRet (tOp (rEqD K) (tVar 7) (tLc (iList K (tVar 8)) (gName 9) (tYes) (tTup (tCons (tC (.str "raised")) (tCons (tVar 9) (tNil)))) [9]))
def t_right (K : PySem.W.Frag) (T : List (Addr × Str)) : TS := tSeq (u0 K T) (tSeq (u1 K T) (tSeq (u2 K T) (tSeq (u3 K T) (tSeq (u4 K T) (tSeq (u5 K T) (tSeq (u6 K T) (tSeq (u7 K T) (tSeq (u8 K T) (tSeq (u9 K T) (tSeq (u10 K T) (tSeq (u11 K T) (tSeq (u12 K T) (tSeq (u13 K T) (tSeq (u14 K T) (tSeq (u15 K T) (tSeq (u16 K T) (tSeq (u17 K T) (tSeq (u18 K T) (tSeq (u19 K T) (tSeq (u20 K T) (tSeq (u21 K T) (u22 K T))))))))))))))))))))))
def spRight (T : List (Addr × Str)) : Sp := fun vs H Q _ => ∃ a, vs = [.ref a] ∧ DiceAt H a ∧ Tabs T H ∧ ∀ H', Stays a H H' → Tabs T H' → DiceAt H' a → Q (.bl true) H'
section
variable {P : Program} {w : World} {K : PySem.W.Frag} {mg : Str → Option Value} {base : Heap}
abbrev N_right : List Str := ["_law_dice_here", "_law_none", "_law_moves", "_law_here", "_law_barred", "_law_prime", "_law_number", "_law_words", "_law_due", "_law_word"]
theorem ok_law_right {T : List (Addr × Str)} {c Pt f g : Addr} {cdv : Value} {fd : FuncData} (F : FunC K "_law_right" "_law_right" slaw_right f fd c) (M : Met3 K mg g cdv) (TB : TabB base mg c Pt) (hmT : (Pt, LNm) ∈ T) (hu : ∀ p ∈ T, p.1 = Pt → p.2 = LNm)
    (pr : ∀ vs H Q E, spRight T vs H Q E → t_right K T { nx := fun _ H' => Q .non H', rt := Q } (L2.start N_right vs) H) (Dr_law_one_of : OwnS P w K mg base 2 "_law_one_of" (spOne K)) (Dr_law_roll : OwnS P w K mg base 1 "_law_roll" spRollW) (Init : OwnInit P w K mg base 6 aG "Group" r_self_init) (O__law_ready_moves : OwnO P w K mg base 2 "_law_ready_moves" 0 r_law_ready_moves) (X_again_paper : OwnX P w K mg base 4 "again_paper" 1 rx_again_paper ex_again_paper) (X_again_step : OwnX P w K mg base 9 "again_step" 1 rx_again_step ex_again_step) (X_bar_members : OwnX P w K mg base 4 "bar_members" 1 rx_bar_members ex_bar_members) (X_is_again_paper : OwnX P w K mg base 4 "is_again_paper" 2 rx_is_again_paper ex_is_again_paper) (X_is_bar : OwnX P w K mg base 4 "is_bar" 2 rx_is_bar ex_is_bar) (X_list_again : OwnX P w K mg base 10 "list_again" 2 rx_list_again ex_list_again) (X_made_commuting : OwnX P w K mg base 4 "made_commuting" 1 rx_made_commuting ex_made_commuting) (X_prime_turns : OwnX P w K mg base 9 "prime_turns" 2 rx_prime_turns ex_prime_turns) (z_repr : mg "repr" = none) : FnG P w K mg base CX0 15 f fd ["_law_dice_here"] (spRight T) := by
  have sc := sclaw_right
  refine DG.FunC.okG F sc (fun vs H Q E h => by obtain ⟨a, rfl, _⟩ := h; rfl) (fun A outer s H vs Q E gd hr h => ⟨t_right K T, ?_, pr vs H Q E h⟩)
  exact pss_cons (ps_set (i := 1) sc.nd rfl (.inr rfl) (pe_call Dr_law_one_of.F (hr.mono (by decide)) rfl Dr_law_one_of.g Dr_law_one_of.k Dr_law_one_of.b .nil pass0 (pa_cons (pv 0) (pa_cons (pe_lst (pa_cons (pe_non) (pa_cons (pe_int) (pa_cons (pe_tup (pa_cons (pe_tup (pa_cons (pe_int) (pa_cons (pe_int) (pa_nil)))) (pa_nil))) (pa_cons (pe_str) (pa_cons (pe_lst (pa_cons (pe_int) (pa_nil))) (pa_cons (pe_dnewK) (pa_cons (pe_tup (pa_nil)) (pa_cons (pe_bl) (pa_nil)))))))))) (pa_nil))))) (pss_cons (ps_set (i := 2) sc.nd rfl (.inl rfl) (pe_call0 O__law_ready_moves.F (hr.mono (by decide)) rfl O__law_ready_moves.g O__law_ready_moves.k O__law_ready_moves.b .nil pass0)) (pss_cons (ps_asg (pe_tup (pa_cons (pe_make Init.M Init.F (hr.mono (by decide)) rfl Init.g Init.b .nil pass0 (pa_cons (pe_dget (hu1 hr) (pv 2) (pe_call Dr_law_one_of.F (hr.mono (by decide)) rfl Dr_law_one_of.g Dr_law_one_of.k Dr_law_one_of.b .nil pass0 (pa_cons (pv 0) (pa_cons (pe_lst (pa_cons (pe_str) (pa_cons (pe_str) (pa_nil)))) (pa_nil)))) (fun _ _ => rfl)) pa_nil)) (pa_cons (pe_make Init.M Init.F (hr.mono (by decide)) rfl Init.g Init.b .nil pass0 (pa_cons (pe_dget (hu1 hr) (pv 2) (pe_str) (fun _ _ => rfl)) pa_nil)) (pa_nil)))) (pg_tup rfl (pgs_cons (pg_name (i := 3) sc.nd rfl (.inr rfl)) (pgs_cons (pg_name (i := 4) sc.nd rfl (.inr rfl)) (pgs_nil))))) (pss_cons (ps_set (i := 5) sc.nd rfl (.inr rfl) (pe_call Dr_law_one_of.F (hr.mono (by decide)) rfl Dr_law_one_of.g Dr_law_one_of.k Dr_law_one_of.b .nil pass0 (pa_cons (pv 0) (pa_cons (pe_lst (pa_cons (pe_non) (pa_cons (pe_int) (pa_cons (pe_int) (pa_cons (pe_int) (pa_cons (pe_int) (pa_cons (pe_int) (pa_cons (pe_int) (pa_cons (pe_un un_neg (pe_int)) (pa_cons (pe_bl) (pa_cons (pe_str) (pa_cons (pe_tup (pa_cons (pe_int) (pa_nil))) (pa_cons (pe_int) (pa_cons (pe_op op_powW (pe_int) (pe_int)) (pa_nil))))))))))))))) (pa_nil))))) (pss_cons (ps_set (i := 6) sc.nd rfl (.inr rfl) (pe_call Dr_law_one_of.F (hr.mono (by decide)) rfl Dr_law_one_of.g Dr_law_one_of.k Dr_law_one_of.b .nil pass0 (pa_cons (pv 0) (pa_cons (pe_lst (pa_cons (pe_non) (pa_cons (pe_int) (pa_cons (pe_un un_neg (pe_int)) (pa_cons (pe_bl) (pa_cons (pe_str) (pa_cons (pe_tup (pa_cons (pe_int) (pa_nil))) (pa_cons (pe_op op_powW (pe_int) (pe_int)) (pa_cons (pe_un un_neg (pe_op op_powW (pe_int) (pe_int))) (pa_nil)))))))))) (pa_nil))))) (pss_cons (ps_set (i := 7) sc.nd rfl (.inl rfl) (pe_lst (pa_cons (pe_met3 (k := 4) M gd rfl TB rfl hmT hu hr rfl rfl (fun _ _ _ _ _ => rfl) (fun A outer s H E f c' hr => pe_call X_bar_members.F (hr.mono (by decide)) rfl X_bar_members.g X_bar_members.k X_bar_members.b .nil (passX (takes_of rfl rfl rfl rfl)) (pa_cons (pv 1) (pa_nil)))) (pa_nil)))) (pss_cons (ps_expr (pe_bm PySem.F.plainAttrs_list PySem.F.slot_list_append PySem.F.type_list_append mt_append (pv 7) (pa_cons (pe_met3 (k := 4) M gd rfl TB rfl hmT hu hr rfl rfl (fun _ _ _ _ _ => rfl) (fun A outer s H E f c' hr => pe_call X_is_bar.F (hr.mono (by decide)) rfl X_is_bar.g X_is_bar.k X_is_bar.b .nil (passX (takes_of rfl rfl rfl rfl)) (pa_cons (pv 1) (pa_cons (pe_non) (pa_nil))))) pa_nil))) (pss_cons (ps_expr (pe_bm PySem.F.plainAttrs_list PySem.F.slot_list_append PySem.F.type_list_append mt_append (pv 7) (pa_cons (pe_met3 (k := 4) M gd rfl TB rfl hmT hu hr rfl rfl (fun _ _ _ _ _ => rfl) (fun A outer s H E f c' hr => pe_call X_again_paper.F (hr.mono (by decide)) rfl X_again_paper.g X_again_paper.k X_again_paper.b .nil (passX (takes_of rfl rfl rfl rfl)) (pa_cons (pv 1) (pa_nil)))) pa_nil))) (pss_cons (ps_expr (pe_bm PySem.F.plainAttrs_list PySem.F.slot_list_append PySem.F.type_list_append mt_append (pv 7) (pa_cons (pe_met3 (k := 4) M gd rfl TB rfl hmT hu hr rfl rfl (fun _ _ _ _ _ => rfl) (fun A outer s H E f c' hr => pe_call X_is_again_paper.F (hr.mono (by decide)) rfl X_is_again_paper.g X_is_again_paper.k X_is_again_paper.b .nil (passX (takes_of rfl rfl rfl rfl)) (pa_cons (pv 1) (pa_cons (pe_tup (pa_nil)) (pa_nil))))) pa_nil))) (pss_cons (ps_expr (pe_bm PySem.F.plainAttrs_list PySem.F.slot_list_append PySem.F.type_list_append mt_append (pv 7) (pa_cons (pe_met3 (k := 4) M gd rfl TB rfl hmT hu hr rfl rfl (fun _ _ _ _ _ => rfl) (fun A outer s H E f c' hr => pe_call X_prime_turns.F (hr.mono (by decide)) rfl X_prime_turns.g X_prime_turns.k X_prime_turns.b .nil (passX (takes_of rfl rfl rfl rfl)) (pa_cons (pv 1) (pa_cons (pv 5) (pa_nil))))) pa_nil))) (pss_cons (ps_expr (pe_bm PySem.F.plainAttrs_list PySem.F.slot_list_append PySem.F.type_list_append mt_append (pv 7) (pa_cons (pe_met3 (k := 4) M gd rfl TB rfl hmT hu hr rfl rfl (fun _ _ _ _ _ => rfl) (fun A outer s H E f c' hr => pe_call X_again_step.F (hr.mono (by decide)) rfl X_again_step.g X_again_step.k X_again_step.b .nil (passX (takes_of rfl rfl rfl rfl)) (pa_cons (pv 1) (pa_nil)))) pa_nil))) (pss_cons (ps_expr (pe_bm PySem.F.plainAttrs_list PySem.F.slot_list_append PySem.F.type_list_append mt_append (pv 7) (pa_cons (pe_met3 (k := 4) M gd rfl TB rfl hmT hu hr rfl rfl (fun _ _ _ _ _ => rfl) (fun A outer s H E f c' hr => pe_call X_list_again.F (hr.mono (by decide)) rfl X_list_again.g X_list_again.k X_list_again.b .nil (passX (takes_of rfl rfl rfl rfl)) (pa_cons (pv 1) (pa_cons (pv 6) (pa_nil))))) pa_nil))) (pss_cons (ps_expr (pe_bm PySem.F.plainAttrs_list PySem.F.slot_list_append PySem.F.type_list_append mt_append (pv 7) (pa_cons (pe_met3 (k := 4) M gd rfl TB rfl hmT hu hr rfl rfl (fun _ _ _ _ _ => rfl) (fun A outer s H E f c' hr => pe_call X_made_commuting.F (hr.mono (by decide)) rfl X_made_commuting.g X_made_commuting.k X_made_commuting.b .nil (passX (takes_of rfl rfl rfl rfl)) (pa_cons (pv 1) (pa_nil)))) pa_nil))) (pss_cons (ps_if (pt_cmpR (op_neD (hu64 hr)) (pv 7) (pe_op op_rep (pe_lst (pa_cons (pe_tup (pa_cons (pe_str) (pa_cons (pe_str) (pa_nil)))) (pa_nil))) (pe_int)) (nomark _)) (pss_one (ps_ret (pe_bl))) (pss_nil)) (pss_cons (ps_set (i := 7) sc.nd rfl (.inl rfl) (pe_lst (pa_cons (pe_met3 (k := 4) M gd rfl TB rfl hmT hu hr rfl rfl (fun _ _ _ _ _ => rfl) (fun A outer s H E f c' hr => pe_call X_prime_turns.F (hr.mono (by decide)) rfl X_prime_turns.g X_prime_turns.k X_prime_turns.b .nil (passX (takes_of rfl rfl rfl rfl)) (pa_cons (pv 3) (pa_cons (pv 5) (pa_nil))))) (pa_nil)))) (pss_cons (ps_expr (pe_bm PySem.F.plainAttrs_list PySem.F.slot_list_append PySem.F.type_list_append mt_append (pv 7) (pa_cons (pe_met3 (k := 4) M gd rfl TB rfl hmT hu hr rfl rfl (fun _ _ _ _ _ => rfl) (fun A outer s H E f c' hr => pe_call X_list_again.F (hr.mono (by decide)) rfl X_list_again.g X_list_again.k X_list_again.b .nil (passX (takes_of rfl rfl rfl rfl)) (pa_cons (pv 3) (pa_cons (pv 6) (pa_nil))))) pa_nil))) (pss_cons (ps_expr (pe_bm PySem.F.plainAttrs_list PySem.F.slot_list_append PySem.F.type_list_append mt_append (pv 7) (pa_cons (pe_met3 (k := 4) M gd rfl TB rfl hmT hu hr rfl rfl (fun _ _ _ _ _ => rfl) (fun A outer s H E f c' hr => pe_call X_list_again.F (hr.mono (by decide)) rfl X_list_again.g X_list_again.k X_list_again.b .nil (passX (takes_of rfl rfl rfl rfl)) (pa_cons (pv 4) (pa_cons (pv 6) (pa_nil))))) pa_nil))) (pss_cons (ps_expr (pe_bm PySem.F.plainAttrs_list PySem.F.slot_list_append PySem.F.type_list_append mt_append (pv 7) (pa_cons (pe_met3 (k := 4) M gd rfl TB rfl hmT hu hr rfl rfl (fun _ _ _ _ _ => rfl) (fun A outer s H E f c' hr => pe_call X_list_again.F (hr.mono (by decide)) rfl X_list_again.g X_list_again.k X_list_again.b .nil (passX (takes_of rfl rfl rfl rfl)) (pa_cons (pv 4) (pa_cons (pe_op op_add (pe_int) (pe_call Dr_law_roll.F (hr.mono (by decide)) rfl Dr_law_roll.g Dr_law_roll.k Dr_law_roll.b .nil pass0 (pa_cons (pv 0) (pa_cons (pe_op op_powW (pe_int) (pe_int)) (pa_nil))))) (pa_nil))))) pa_nil))) (pss_cons (ps_expr (pe_bm PySem.F.plainAttrs_list PySem.F.slot_list_append PySem.F.type_list_append mt_append (pv 7) (pa_cons (pe_met3 (k := 4) M gd rfl TB rfl hmT hu hr rfl rfl (fun _ _ _ _ _ => rfl) (fun A outer s H E f c' hr => pe_call X_again_step.F (hr.mono (by decide)) rfl X_again_step.g X_again_step.k X_again_step.b .nil (passX (takes_of rfl rfl rfl rfl)) (pa_cons (pv 4) (pa_nil)))) pa_nil))) (pss_cons (ps_expr (pe_bm PySem.F.plainAttrs_list PySem.F.slot_list_append PySem.F.type_list_append mt_append (pv 7) (pa_cons (pe_met3 (k := 4) M gd rfl TB rfl hmT hu hr rfl rfl (fun _ _ _ _ _ => rfl) (fun A outer s H E f c' hr => pe_call X_prime_turns.F (hr.mono (by decide)) rfl X_prime_turns.g X_prime_turns.k X_prime_turns.b .nil (passX (takes_of rfl rfl rfl rfl)) (pa_cons (pv 4) (pa_cons (pe_int) (pa_nil))))) pa_nil))) (pss_cons (ps_expr (pe_bm PySem.F.plainAttrs_list PySem.F.slot_list_append PySem.F.type_list_append mt_append (pv 7) (pa_cons (pe_met3 (k := 4) M gd rfl TB rfl hmT hu hr rfl rfl (fun _ _ _ _ _ => rfl) (fun A outer s H E f c' hr => pe_call X_list_again.F (hr.mono (by decide)) rfl X_list_again.g X_list_again.k X_list_again.b .nil (passX (takes_of rfl rfl rfl rfl)) (pa_cons (pv 3) (pa_cons (pe_op op_powW (pe_int) (pe_int)) (pa_nil))))) pa_nil))) (pss_cons (ps_set (i := 8) sc.nd rfl (.inl rfl) (pe_op op_cat (pe_op op_cat (pe_op op_cat (pe_lst (pa_cons (pe_op hCatS (pe_str) (pe_callB (call_reprD gd (hu3 hr)) rfl z_repr (by decide +kernel) (pa_cons (pv 5) (pa_nil)))) (pa_nil))) (pe_op op_rep (pe_lst (pa_cons (pe_op hCatS (pe_str) (pe_callB (call_reprD gd (hu3 hr)) rfl z_repr (by decide +kernel) (pa_cons (pv 6) (pa_nil)))) (pa_nil))) (pe_int))) (pe_op op_rep (pe_lst (pa_cons (pe_op hCatS (pe_str) (pe_callB (call_reprD gd (hu3 hr)) rfl z_repr (by decide +kernel) (pa_cons (pe_tup (pa_cons (pe_str) (pa_nil))) (pa_nil)))) (pa_nil))) (pe_int))) (pe_op op_rep (pe_lst (pa_cons (pe_str) (pa_nil))) (pe_int)))) (pss_one (ps_ret (pe_cmpR (op_eqD (hu64 hr)) (pv 7) (pe_lc (own := [("_law_word", 9)]) rfl sc.nd (pi_list (pv 8)) (blkOk_by (by rfl)) (fun _ _ _ _ _ => pg_name (i := 9) sc.nd rfl (.inl rfl)) (fun _ _ _ _ _ => pts_nil) (fun _ _ _ _ _ => pe_tup (pa_cons (pe_str) (pa_cons (pv 9) (pa_nil))))) (nomark _)))))))))))))))))))))))))
end
end K77

namespace DG
open PySem PySem.Spec PyProof.Rows L2 LamX DL DN DX DZ
section
variable {K : PySem.W.Frag} {T : List (Addr × Str)} {a : Addr} {H0 F H F' H' : Hp} {σ : L2.St} {ρ ρ' : DS}
variable {t ta tb : TE} {u : TA} {R Ra Rb Rz : D → Prop} {RL : List D → Prop} {told fine : Str}
theorem ZA.of {m : M (List D)} (hx : ∀ F0 H0, Ax ⟨K, F0, H0⟩ u m) (hi : Irr m) {ds : List D} (e : m (.unk :: ρ) = some ds) : ZA K T a H0 ρ u (fun z => z = ds) := fun F H σ Q S k => by
  obtain ⟨G, t, d, y, S1⟩ := S
  exact hx _ _ _ σ F H _ ds S1 (hi.at e _) fun vs F' H' x r => k vs ds F' H' rfl ⟨G, t, d, y, S1.up x⟩ (noT_same x.f) r
/-- u asks a slot, then its argument -/
theorem ZX.via1 {i : Nat} {dx : D} {w : TE → TE} {body : V → V → Hp → VK → Prop} (hw : ∀ t σ H Q, w t σ H Q = (tVar (i + 1)) σ H (fun x H' => t σ H' (fun v H1 => body x v H1 Q))) (hd : ρ[i]? = some (.fro dx)) (h : ZX K T a H0 ρ t R)
    (k : ∀ d, R d → ZX K T a H0 (ρ ++ [.fro d]) (w (tVar (ρ.length + 1))) Rz) : ZX K T a H0 ρ (w t) Rz := fun F H σ Q S q => by
  rw [hw]
  obtain ⟨x, hx, _⟩ := S.fro hd
  refine ⟨x, hx, h F H σ _ S fun v d F1 H1 r S1 s1 p1 => ?_⟩
  have z := k d r F1 H1 (σ ++ [some v]) Q (ZR.push S1 p1) fun v2 d2 F2 H2 r2 S2 s2 p2 => q v2 d2 F2 H2 r2 (ZR.pop S2) (noT_trans s1 s2) p2
  rw [hw] at z
  obtain ⟨x', ex, v', e, z⟩ := z
  have hl : σ.length = ρ.length + 1 := by
    obtain ⟨_, _, _, _, S2⟩ := S1
    exact S2.len
  have hi : i + 1 < σ.length := (List.getElem?_eq_some_iff.mp hx).1
  rw [List.getElem?_append_left hi, hx] at ex
  cases ex
  rw [← hl, List.getElem?_append_right (Nat.le_refl _), Nat.sub_self] at e
  cases e
  exact z
/-- x, y = (.., ..) -/
theorem ZR.par2 {i j : Nat} (h : ZA K T a H0 ρ u RL) (hl : ∀ ds, RL ds → ∃ d e, ds = [d, e]) (S : ZR K T a H0 F H σ ρ) {En : Ends} (k : ∀ d e σ' F' H', RL [d, e] → ZR K T a H0 F' H' σ' ((ρ.set i (.fro d)).set j (.fro e)) → Same (noT F) F' → En.nx σ' H') :
    tAsg (tTup u) (gTup K 2 (gCons (gName (i + 1)) (gCons (gName (j + 1)) gNil))) En σ H := by
  refine h F H σ _ S fun vs ds F1 H1 r S1 s1 p1 => ?_
  obtain ⟨d, e, rfl⟩ := hl ds r
  cases p1 with
  | cons q1 p1 =>
    cases p1 with
    | cons q2 p1 =>
      cases p1
      rename_i v w
      refine ⟨by show 2 ≤ sizeLine; decide, fun p hp => ?_⟩
      have x3 : Ext F1 H1 (upd F1 p (.tup [v, w])) (upd H1 p (.tup [v, w])) := Ext.laid S1.s hp
      refine ⟨p, [v, w], rfl, SqT.of upd_same, rfl, v, [w], rfl, w, [], rfl, rfl, ?_⟩
      exact k d e _ _ _ r (((S1.up x3).set (i := i) (q1.mono x3.f)).set (i := j) (q2.mono x3.f)) (noT_trans s1 (noT_same x3.f))
end
end DG

namespace K77
open PySem PySem.Spec PyProof.Rows L2 DL DN DX DG DZ LamX
def readyA : D := (.dct false [(.str (Str.ofString "c1")), (.str (Str.ofString "c2")), (.str (Str.ofString "c3")), (.str (Str.ofString "c4")), (.str (Str.ofString "c5")), (.str (Str.ofString "c6")), (.str (Str.ofString "c7")), (.str (Str.ofString "c8")), (.str (Str.ofString "v4")), (.str (Str.ofString "c2c4")), (.str (Str.ofString "c3c3")), (.str (Str.ofString "s3")), (.str (Str.ofString "d4")), (.str (Str.ofString "q8")), (.str (Str.ofString "a4")), (.str (Str.ofString "d5")), (.str (Str.ofString "d6"))] [(.tup [(.tup [(.int (.ofNat 0))])]), (.tup [(.tup [(.int (.ofNat 1)), (.int (.ofNat 0))])]), (.tup [(.tup [(.int (.ofNat 1)), (.int (.ofNat 2)), (.int (.ofNat 0))])]), (.tup [(.tup [(.int (.ofNat 1)), (.int (.ofNat 2)), (.int (.ofNat 3)), (.int (.ofNat 0))])]), (.tup [(.tup [(.int (.ofNat 1)), (.int (.ofNat 2)), (.int (.ofNat 3)), (.int (.ofNat 4)), (.int (.ofNat 0))])]), (.tup [(.tup [(.int (.ofNat 1)), (.int (.ofNat 2)), (.int (.ofNat 3)), (.int (.ofNat 4)), (.int (.ofNat 5)), (.int (.ofNat 0))])]), (.tup [(.tup [(.int (.ofNat 1)), (.int (.ofNat 2)), (.int (.ofNat 3)), (.int (.ofNat 4)), (.int (.ofNat 5)), (.int (.ofNat 6)), (.int (.ofNat 0))])]), (.tup [(.tup [(.int (.ofNat 1)), (.int (.ofNat 2)), (.int (.ofNat 3)), (.int (.ofNat 4)), (.int (.ofNat 5)), (.int (.ofNat 6)), (.int (.ofNat 7)), (.int (.ofNat 0))])]), (.tup [(.tup [(.int (.ofNat 1)), (.int (.ofNat 0)), (.int (.ofNat 2)), (.int (.ofNat 3))]), (.tup [(.int (.ofNat 0)), (.int (.ofNat 1)), (.int (.ofNat 3)), (.int (.ofNat 2))])]), (.tup [(.tup [(.int (.ofNat 1)), (.int (.ofNat 0)), (.int (.ofNat 2)), (.int (.ofNat 3)), (.int (.ofNat 4)), (.int (.ofNat 5))]), (.tup [(.int (.ofNat 0)), (.int (.ofNat 1)), (.int (.ofNat 3)), (.int (.ofNat 4)), (.int (.ofNat 5)), (.int (.ofNat 2))])]), (.tup [(.tup [(.int (.ofNat 1)), (.int (.ofNat 2)), (.int (.ofNat 0)), (.int (.ofNat 3)), (.int (.ofNat 4)), (.int (.ofNat 5))]), (.tup [(.int (.ofNat 0)), (.int (.ofNat 1)), (.int (.ofNat 2)), (.int (.ofNat 4)), (.int (.ofNat 5)), (.int (.ofNat 3))])]), (.tup [(.tup [(.int (.ofNat 1)), (.int (.ofNat 0)), (.int (.ofNat 2))]), (.tup [(.int (.ofNat 1)), (.int (.ofNat 2)), (.int (.ofNat 0))])]), (.tup [(.tup [(.int (.ofNat 1)), (.int (.ofNat 2)), (.int (.ofNat 3)), (.int (.ofNat 0))]), (.tup [(.int (.ofNat 0)), (.int (.ofNat 3)), (.int (.ofNat 2)), (.int (.ofNat 1))])]), (.tup [(.tup [(.int (.ofNat 1)), (.int (.ofNat 4)), (.int (.ofNat 3)), (.int (.ofNat 6)), (.int (.ofNat 5)), (.int (.ofNat 0)), (.int (.ofNat 7)), (.int (.ofNat 2))]), (.tup [(.int (.ofNat 2)), (.int (.ofNat 7)), (.int (.ofNat 4)), (.int (.ofNat 1)), (.int (.ofNat 6)), (.int (.ofNat 3)), (.int (.ofNat 0)), (.int (.ofNat 5))])]), (.tup [(.tup [(.int (.ofNat 1)), (.int (.ofNat 2)), (.int (.ofNat 0)), (.int (.ofNat 3))]), (.tup [(.int (.ofNat 1)), (.int (.ofNat 0)), (.int (.ofNat 3)), (.int (.ofNat 2))])]), (.tup [(.tup [(.int (.ofNat 1)), (.int (.ofNat 2)), (.int (.ofNat 3)), (.int (.ofNat 4)), (.int (.ofNat 0))]), (.tup [(.int (.ofNat 0)), (.int (.ofNat 4)), (.int (.ofNat 3)), (.int (.ofNat 2)), (.int (.ofNat 1))])]), (.tup [(.tup [(.int (.ofNat 1)), (.int (.ofNat 2)), (.int (.ofNat 3)), (.int (.ofNat 4)), (.int (.ofNat 5)), (.int (.ofNat 0))]), (.tup [(.int (.ofNat 0)), (.int (.ofNat 5)), (.int (.ofNat 4)), (.int (.ofNat 3)), (.int (.ofNat 2)), (.int (.ofNat 1))])])])
def G6 : D := (.ins aG [(Str.ofString "_moves"), (Str.ofString "_members"), (Str.ofString "_products"), (Str.ofString "_inverses")] [(.tup [(.tup [(.int (.ofNat 0)), (.int (.ofNat 1)), (.int (.ofNat 2)), (.int (.ofNat 3)), (.int (.ofNat 4)), (.int (.ofNat 5))]), (.tup [(.int (.ofNat 1)), (.int (.ofNat 2)), (.int (.ofNat 3)), (.int (.ofNat 4)), (.int (.ofNat 5)), (.int (.ofNat 0))]), (.tup [(.int (.ofNat 2)), (.int (.ofNat 3)), (.int (.ofNat 4)), (.int (.ofNat 5)), (.int (.ofNat 0)), (.int (.ofNat 1))]), (.tup [(.int (.ofNat 3)), (.int (.ofNat 4)), (.int (.ofNat 5)), (.int (.ofNat 0)), (.int (.ofNat 1)), (.int (.ofNat 2))]), (.tup [(.int (.ofNat 4)), (.int (.ofNat 5)), (.int (.ofNat 0)), (.int (.ofNat 1)), (.int (.ofNat 2)), (.int (.ofNat 3))]), (.tup [(.int (.ofNat 5)), (.int (.ofNat 0)), (.int (.ofNat 1)), (.int (.ofNat 2)), (.int (.ofNat 3)), (.int (.ofNat 4))])]), (.tup [(.int (.ofNat 0)), (.int (.ofNat 1)), (.int (.ofNat 2)), (.int (.ofNat 3)), (.int (.ofNat 4)), (.int (.ofNat 5))]), (.tup [(.ftup [(.int (.ofNat 0)), (.int (.ofNat 1)), (.int (.ofNat 2)), (.int (.ofNat 3)), (.int (.ofNat 4)), (.int (.ofNat 5))]), (.ftup [(.int (.ofNat 1)), (.int (.ofNat 2)), (.int (.ofNat 3)), (.int (.ofNat 4)), (.int (.ofNat 5)), (.int (.ofNat 0))]), (.ftup [(.int (.ofNat 2)), (.int (.ofNat 3)), (.int (.ofNat 4)), (.int (.ofNat 5)), (.int (.ofNat 0)), (.int (.ofNat 1))]), (.ftup [(.int (.ofNat 3)), (.int (.ofNat 4)), (.int (.ofNat 5)), (.int (.ofNat 0)), (.int (.ofNat 1)), (.int (.ofNat 2))]), (.ftup [(.int (.ofNat 4)), (.int (.ofNat 5)), (.int (.ofNat 0)), (.int (.ofNat 1)), (.int (.ofNat 2)), (.int (.ofNat 3))]), (.ftup [(.int (.ofNat 5)), (.int (.ofNat 0)), (.int (.ofNat 1)), (.int (.ofNat 2)), (.int (.ofNat 3)), (.int (.ofNat 4))])]), (.tup [(.int (.ofNat 0)), (.int (.ofNat 5)), (.int (.ofNat 4)), (.int (.ofNat 3)), (.int (.ofNat 2)), (.int (.ofNat 1))])])
def G3 : D := (.ins aG [(Str.ofString "_moves"), (Str.ofString "_members"), (Str.ofString "_products"), (Str.ofString "_inverses")] [(.tup [(.tup [(.int (.ofNat 0)), (.int (.ofNat 1)), (.int (.ofNat 2))]), (.tup [(.int (.ofNat 0)), (.int (.ofNat 2)), (.int (.ofNat 1))]), (.tup [(.int (.ofNat 1)), (.int (.ofNat 0)), (.int (.ofNat 2))]), (.tup [(.int (.ofNat 1)), (.int (.ofNat 2)), (.int (.ofNat 0))]), (.tup [(.int (.ofNat 2)), (.int (.ofNat 0)), (.int (.ofNat 1))]), (.tup [(.int (.ofNat 2)), (.int (.ofNat 1)), (.int (.ofNat 0))])]), (.tup [(.int (.ofNat 0)), (.int (.ofNat 1)), (.int (.ofNat 2)), (.int (.ofNat 3)), (.int (.ofNat 4)), (.int (.ofNat 5))]), (.tup [(.ftup [(.int (.ofNat 0)), (.int (.ofNat 1)), (.int (.ofNat 2)), (.int (.ofNat 3)), (.int (.ofNat 4)), (.int (.ofNat 5))]), (.ftup [(.int (.ofNat 1)), (.int (.ofNat 0)), (.int (.ofNat 4)), (.int (.ofNat 5)), (.int (.ofNat 2)), (.int (.ofNat 3))]), (.ftup [(.int (.ofNat 2)), (.int (.ofNat 3)), (.int (.ofNat 0)), (.int (.ofNat 1)), (.int (.ofNat 5)), (.int (.ofNat 4))]), (.ftup [(.int (.ofNat 3)), (.int (.ofNat 2)), (.int (.ofNat 5)), (.int (.ofNat 4)), (.int (.ofNat 0)), (.int (.ofNat 1))]), (.ftup [(.int (.ofNat 4)), (.int (.ofNat 5)), (.int (.ofNat 1)), (.int (.ofNat 0)), (.int (.ofNat 3)), (.int (.ofNat 2))]), (.ftup [(.int (.ofNat 5)), (.int (.ofNat 4)), (.int (.ofNat 3)), (.int (.ofNat 2)), (.int (.ofNat 1)), (.int (.ofNat 0))])]), (.tup [(.int (.ofNat 0)), (.int (.ofNat 1)), (.int (.ofNat 2)), (.int (.ofNat 4)), (.int (.ofNat 3)), (.int (.ofNat 5))])])
def GV : D := (.ins aG [(Str.ofString "_moves"), (Str.ofString "_members"), (Str.ofString "_products"), (Str.ofString "_inverses")] [(.tup [(.tup [(.int (.ofNat 0)), (.int (.ofNat 1)), (.int (.ofNat 2)), (.int (.ofNat 3))]), (.tup [(.int (.ofNat 0)), (.int (.ofNat 1)), (.int (.ofNat 3)), (.int (.ofNat 2))]), (.tup [(.int (.ofNat 1)), (.int (.ofNat 0)), (.int (.ofNat 2)), (.int (.ofNat 3))]), (.tup [(.int (.ofNat 1)), (.int (.ofNat 0)), (.int (.ofNat 3)), (.int (.ofNat 2))])]), (.tup [(.int (.ofNat 0)), (.int (.ofNat 1)), (.int (.ofNat 2)), (.int (.ofNat 3))]), (.tup [(.ftup [(.int (.ofNat 0)), (.int (.ofNat 1)), (.int (.ofNat 2)), (.int (.ofNat 3))]), (.ftup [(.int (.ofNat 1)), (.int (.ofNat 0)), (.int (.ofNat 3)), (.int (.ofNat 2))]), (.ftup [(.int (.ofNat 2)), (.int (.ofNat 3)), (.int (.ofNat 0)), (.int (.ofNat 1))]), (.ftup [(.int (.ofNat 3)), (.int (.ofNat 2)), (.int (.ofNat 1)), (.int (.ofNat 0))])]), (.tup [(.int (.ofNat 0)), (.int (.ofNat 1)), (.int (.ofNat 2)), (.int (.ofNat 3))])])
def nones : List D := [.non, .int 4, .tup [.tup [.int 1, .int 0]], .str "group", .lst [.int 1], .dct false [] [], .tup [], .bl true]
def prs : List D := [.non, .int 0, .int 1, .int 4, .int 5, .int 7, .int 6, .int (-2), .bl true, .str "2", .tup [.int 2], .int 31, .int (10 ^ 40)]
def nums : List D := [.non, .int 0, .int (-1), .bl true, .str "2", .tup [.int 2], .int (10 ^ 60), .int (-(10 ^ 30))]
def zG : D := twoD "raised" "group"
def zF : D := twoD "raised" "fine"
def zR : D := twoD "raised" "refused ('bar',)"
def zN (d : D) : D := (fTold "raised" "number " d).getD .non
def okE (x : Option Er) (z : D) : Bool := match x with
  | some e => [aIG, aIN, aR].contains (Er.at e) && oeq (metE "raised" cls3 e) z
  | none => false
set_option maxHeartbeats 0 in
theorem ready_is : r_law_ready_moves [] = some readyA := oeq_ok (by decide +kernel)
set_option maxHeartbeats 0 in
theorem g6_is : (fGetI readyA (.str "c6")).bind r_self_init = some G6 := oeq_ok (by decide +kernel)
set_option maxHeartbeats 0 in
theorem g3_is : (fGetI readyA (.str "s3")).bind r_self_init = some G3 := oeq_ok (by decide +kernel)
set_option maxHeartbeats 0 in
theorem gv_is : (fGetI readyA (.str "v4")).bind r_self_init = some GV := oeq_ok (by decide +kernel)
set_option maxHeartbeats 0 in
theorem c_bar : (nones.all fun d => okE (ex_bar_members [d]) zG) = true := by decide +kernel
set_option maxHeartbeats 0 in
theorem c_isbar : (nones.all fun d => okE (ex_is_bar [d, .non]) zG) = true := by decide +kernel
set_option maxHeartbeats 0 in
theorem c_paper : (nones.all fun d => okE (ex_again_paper [d]) zG) = true := by decide +kernel
set_option maxHeartbeats 0 in
theorem c_ispaper : (nones.all fun d => okE (ex_is_again_paper [d, .tup []]) zG) = true := by decide +kernel
set_option maxHeartbeats 0 in
theorem c_turns : (nones.all fun d => prs.all fun p => okE (ex_prime_turns [d, p]) zG) = true := by decide +kernel
set_option maxHeartbeats 0 in
theorem c_step : (nones.all fun d => okE (ex_again_step [d]) zG) = true := by decide +kernel
set_option maxHeartbeats 0 in
theorem c_list : (nones.all fun d => nums.all fun n => okE (ex_list_again [d, n]) zG) = true := by decide +kernel
set_option maxHeartbeats 0 in
theorem c_made : (nones.all fun d => okE (ex_made_commuting [d]) zG) = true := by decide +kernel
set_option maxHeartbeats 0 in
theorem c_t6 : ([G6, G3].all fun g => prs.all fun p => okE (ex_prime_turns [g, p]) (zN p)) = true := by decide +kernel
set_option maxHeartbeats 0 in
theorem c_l6 : ([G6, G3, GV].all fun g => nums.all fun n => okE (ex_list_again [g, n]) (zN n)) = true := by decide +kernel
set_option maxHeartbeats 0 in
theorem c_sv : (okE (ex_again_step [GV]) zR) = true := by decide +kernel
set_option maxHeartbeats 0 in
theorem c_tv : ((rx_prime_turns [GV, .int 2]).isSome) = true := by decide +kernel
set_option maxHeartbeats 0 in
theorem c_fine : ([G6, G3].all fun g => (rx_list_again [g, .int (10 ^ 59)]).isSome) = true := by decide +kernel
def mL0 : M D := mLst (mCons (mC .non) (mCons (mC (.int 4)) (mCons (mTup (mCons (mTup (mCons (mC (.int 1)) (mCons (mC (.int 0)) (mNil)))) (mNil))) (mCons (mC (.str "group")) (mCons (mLst (mCons (mC (.int 1)) (mNil))) (mCons ((fun _ => some (.dct false [] []))) (mCons (mTup (mNil)) (mCons (mC (.bl true)) (mNil)))))))))
theorem xL0 {c : Cc} : Ex c (tLst (tCons (tC .non) (tCons (tC (.int 4)) (tCons (tTup (tCons (tTup (tCons (tC (.int 1)) (tCons (tC (.int 0)) (tNil)))) (tNil))) (tCons (tC (.str "group")) (tCons (tLst (tCons (tC (.int 1)) (tNil))) (tCons (tDNewK) (tCons (tTup (tNil)) (tCons (tC (.bl true)) (tNil)))))))))) mL0 := (ox_lst (ax_cons (ex_non) (ax_cons (ex_int 4) (ax_cons (ex_tup (ax_cons (ex_tup (ax_cons (ex_int 1) (ax_cons (ex_int 0) (ax_nil)))) (ax_nil))) (ax_cons (ex_str "group") (ax_cons ((ox_lst (ax_cons (ex_int 1) (ax_nil))).x) (ax_cons ((ox_dnewK).x) (ax_cons (ex_tup (ax_nil)) (ax_cons (ex_bl true) (ax_nil)))))))))).x
theorem iL0 : Irr mL0 := ir_lst (ir_cons (ir_c _) (ir_cons (ir_c _) (ir_cons (ir_tup (ir_cons (ir_tup (ir_cons (ir_c _) (ir_cons (ir_c _) (ir_nil)))) (ir_nil))) (ir_cons (ir_c _) (ir_cons (ir_lst (ir_cons (ir_c _) (ir_nil))) (ir_cons (ir_const _) (ir_cons (ir_tup (ir_nil)) (ir_cons (ir_c _) (ir_nil)))))))))
set_option maxHeartbeats 0 in
theorem eL0 (δ : DS) : mL0 δ = some (.lst nones) := (show mL0 δ = mL0 [] from rfl).trans (oeq_ok (by decide +kernel))
def mL3 : M D := mLst (mCons (mC .non) (mCons (mC (.int 0)) (mCons (mC (.int 1)) (mCons (mC (.int 4)) (mCons (mC (.int 5)) (mCons (mC (.int 7)) (mCons (mC (.int 6)) (mCons (mF fNeg (mC (.int 2))) (mCons (mC (.bl true)) (mCons (mC (.str "2")) (mCons (mTup (mCons (mC (.int 2)) (mNil))) (mCons (mC (.int 31)) (mCons (m2 (fI cPow fun i j => i ^ j.toNat) (mC (.int 10)) (mC (.int 40))) (mNil))))))))))))))
theorem xL3 {c : Cc} : Ex c (tLst (tCons (tC .non) (tCons (tC (.int 0)) (tCons (tC (.int 1)) (tCons (tC (.int 4)) (tCons (tC (.int 5)) (tCons (tC (.int 7)) (tCons (tC (.int 6)) (tCons (tUn (rU fun i => .int (-i)) (tC (.int 2))) (tCons (tC (.bl true)) (tCons (tC (.str "2")) (tCons (tTup (tCons (tC (.int 2)) (tNil))) (tCons (tC (.int 31)) (tCons (tOp rPowW (tC (.int 10)) (tC (.int 40))) (tNil))))))))))))))) mL3 := (ox_lst (ax_cons (ex_non) (ax_cons (ex_int 0) (ax_cons (ex_int 1) (ax_cons (ex_int 4) (ax_cons (ex_int 5) (ax_cons (ex_int 7) (ax_cons (ex_int 6) (ax_cons (ex_neg (ex_int 2)) (ax_cons (ex_bl true) (ax_cons (ex_str "2") (ax_cons (ex_tup (ax_cons (ex_int 2) (ax_nil))) (ax_cons (ex_int 31) (ax_cons (ex_op (op_rI (g := fun i j => i ^ j.toNat) cPow_ok) ((ex_int 10).b) ((ex_int 40).b)) (ax_nil))))))))))))))).x
theorem iL3 : Irr mL3 := ir_lst (ir_cons (ir_c _) (ir_cons (ir_c _) (ir_cons (ir_c _) (ir_cons (ir_c _) (ir_cons (ir_c _) (ir_cons (ir_c _) (ir_cons (ir_c _) (ir_cons (ir_f (ir_c _)) (ir_cons (ir_c _) (ir_cons (ir_c _) (ir_cons (ir_tup (ir_cons (ir_c _) (ir_nil))) (ir_cons (ir_c _) (ir_cons (ir_m2 (ir_c _) (ir_c _)) (ir_nil))))))))))))))
set_option maxHeartbeats 0 in
theorem eL3 (δ : DS) : mL3 δ = some (.lst prs) := (show mL3 δ = mL3 [] from rfl).trans (oeq_ok (by decide +kernel))
def mL4 : M D := mLst (mCons (mC .non) (mCons (mC (.int 0)) (mCons (mF fNeg (mC (.int 1))) (mCons (mC (.bl true)) (mCons (mC (.str "2")) (mCons (mTup (mCons (mC (.int 2)) (mNil))) (mCons (m2 (fI cPow fun i j => i ^ j.toNat) (mC (.int 10)) (mC (.int 60))) (mCons (mF fNeg (m2 (fI cPow fun i j => i ^ j.toNat) (mC (.int 10)) (mC (.int 30)))) (mNil)))))))))
theorem xL4 {c : Cc} : Ex c (tLst (tCons (tC .non) (tCons (tC (.int 0)) (tCons (tUn (rU fun i => .int (-i)) (tC (.int 1))) (tCons (tC (.bl true)) (tCons (tC (.str "2")) (tCons (tTup (tCons (tC (.int 2)) (tNil))) (tCons (tOp rPowW (tC (.int 10)) (tC (.int 60))) (tCons (tUn (rU fun i => .int (-i)) (tOp rPowW (tC (.int 10)) (tC (.int 30)))) (tNil)))))))))) mL4 := (ox_lst (ax_cons (ex_non) (ax_cons (ex_int 0) (ax_cons (ex_neg (ex_int 1)) (ax_cons (ex_bl true) (ax_cons (ex_str "2") (ax_cons (ex_tup (ax_cons (ex_int 2) (ax_nil))) (ax_cons (ex_op (op_rI (g := fun i j => i ^ j.toNat) cPow_ok) ((ex_int 10).b) ((ex_int 60).b)) (ax_cons (ex_neg (ex_op (op_rI (g := fun i j => i ^ j.toNat) cPow_ok) ((ex_int 10).b) ((ex_int 30).b))) (ax_nil)))))))))).x
theorem iL4 : Irr mL4 := ir_lst (ir_cons (ir_c _) (ir_cons (ir_c _) (ir_cons (ir_f (ir_c _)) (ir_cons (ir_c _) (ir_cons (ir_c _) (ir_cons (ir_tup (ir_cons (ir_c _) (ir_nil))) (ir_cons (ir_m2 (ir_c _) (ir_c _)) (ir_cons (ir_f (ir_m2 (ir_c _) (ir_c _))) (ir_nil)))))))))
set_option maxHeartbeats 0 in
theorem eL4 (δ : DS) : mL4 δ = some (.lst nums) := (show mL4 δ = mL4 [] from rfl).trans (oeq_ok (by decide +kernel))
def mL2 : M D := mLst (mCons (mC (.str "c6")) (mCons (mC (.str "s3")) (mNil)))
theorem xL2 {c : Cc} : Ex c (tLst (tCons (tC (.str "c6")) (tCons (tC (.str "s3")) (tNil)))) mL2 := (ox_lst (ax_cons (ex_str "c6") (ax_cons (ex_str "s3") (ax_nil)))).x
theorem iL2 : Irr mL2 := ir_lst (ir_cons (ir_c _) (ir_cons (ir_c _) (ir_nil)))
theorem eL2 (δ : DS) : mL2 δ = some (.lst [.str "c6", .str "s3"]) := rfl
def m13 : M Bool := mBool (m2 (fEq true) (mAny 7) (m2 fRepL (mLst (mCons (mTup (mCons (mC (.str "raised")) (mCons (mC (.str "group")) (mNil)))) (mNil))) (mC (.int 8))))
theorem x13 {c : Cc} : Tx c (tTest (tOp (rNeD c.K) (tVar 7) (tOp rRep (tLst (tCons (tTup (tCons (tC (.str "raised")) (tCons (tC (.str "group")) (tNil)))) (tNil))) (tC (.int 8))))) m13 := tx_test (ex_op op_neB (bx_var 7) ((ox_repL ((ox_lst (ax_cons (ex_tup (ax_cons (ex_str "raised") (ax_cons (ex_str "group") (ax_nil)))) (ax_nil))).b) ((ex_int 8).b)).b)).b
theorem i13 : Irr m13 := ir_bool (ir_m2 (ir_any 6) (ir_m2 (ir_lst (ir_cons (ir_tup (ir_cons (ir_c _) (ir_cons (ir_c _) (ir_nil)))) (ir_nil))) (ir_c _)))
set_option maxHeartbeats 0 in
theorem e13 (δ : DS) (h : mAny 7 δ = some (.lst (List.replicate 8 zG))) : m13 δ = some false := by
  show ((mAny 7 δ).bind fun d => (((m2 fRepL (mLst (mCons (mTup (mCons (mC (.str "raised")) (mCons (mC (.str "group")) (mNil)))) (mNil))) (mC (.int 8)))) []).bind fun e => fEq true d e).bind boolD = some false
  rw [h]
  have z : (((some (D.lst (List.replicate 8 zG))).bind fun d => (((m2 fRepL (mLst (mCons (mTup (mCons (mC (.str "raised")) (mCons (mC (.str "group")) (mNil)))) (mNil))) (mC (.int 8)))) []).bind fun e => fEq true d e).bind boolD == some false) = true := by decide +kernel
  exact beq_iff_eq.mp z
def m21 : M D := m2 fCatL (m2 fCatL (m2 fCatL (mLst (mCons (m2 (fCatS) (mC (.str "number ")) (mB (f1 fReprD) (mCons (mAny 5) (mNil)))) (mNil))) (m2 fRepL (mLst (mCons (m2 (fCatS) (mC (.str "number ")) (mB (f1 fReprD) (mCons (mAny 6) (mNil)))) (mNil))) (mC (.int 2)))) (m2 fRepL (mLst (mCons (m2 (fCatS) (mC (.str "refused ")) (mB (f1 fReprD) (mCons (mTup (mCons (mC (.str "bar")) (mNil))) (mNil)))) (mNil))) (mC (.int 2)))) (m2 fRepL (mLst (mCons (mC (.str "fine")) (mNil))) (mC (.int 2)))
theorem x21 {c : Cc} : Ex c (tOp rCat (tOp rCat (tOp rCat (tLst (tCons (tOp (rCatS) (tC (.str "number ")) (tCB (rReprD c.K) (tCons (tVar 5) (tNil)))) (tNil))) (tOp rRep (tLst (tCons (tOp (rCatS) (tC (.str "number ")) (tCB (rReprD c.K) (tCons (tVar 6) (tNil)))) (tNil))) (tC (.int 2)))) (tOp rRep (tLst (tCons (tOp (rCatS) (tC (.str "refused ")) (tCB (rReprD c.K) (tCons (tTup (tCons (tC (.str "bar")) (tNil))) (tNil)))) (tNil))) (tC (.int 2)))) (tOp rRep (tLst (tCons (tC (.str "fine")) (tNil))) (tC (.int 2)))) m21 := (ox_catL ((ox_catL ((ox_catL ((ox_lst (ax_cons (ex_op (bCatS) ((ex_str "number ").b) ((ex_cb bReprD (ab_cons (bx_var 5) (ab_nil))).b)) (ax_nil))).b) ((ox_repL ((ox_lst (ax_cons (ex_op (bCatS) ((ex_str "number ").b) ((ex_cb bReprD (ab_cons (bx_var 6) (ab_nil))).b)) (ax_nil))).b) ((ex_int 2).b)).b)).b) ((ox_repL ((ox_lst (ax_cons (ex_op (bCatS) ((ex_str "refused ").b) ((ex_cb bReprD (ab_cons ((ex_tup (ax_cons (ex_str "bar") (ax_nil))).b) (ab_nil))).b)) (ax_nil))).b) ((ex_int 2).b)).b)).b) ((ox_repL ((ox_lst (ax_cons (ex_str "fine") (ax_nil))).b) ((ex_int 2).b)).b)).x
theorem i21 : Irr m21 := ir_m2 (ir_m2 (ir_m2 (ir_lst (ir_cons (ir_m2 (ir_c _) (ir_b (ir_cons (ir_any 4) (ir_nil)))) (ir_nil))) (ir_m2 (ir_lst (ir_cons (ir_m2 (ir_c _) (ir_b (ir_cons (ir_any 5) (ir_nil)))) (ir_nil))) (ir_c _))) (ir_m2 (ir_lst (ir_cons (ir_m2 (ir_c _) (ir_b (ir_cons (ir_tup (ir_cons (ir_c _) (ir_nil))) (ir_nil)))) (ir_nil))) (ir_c _))) (ir_m2 (ir_lst (ir_cons (ir_c _) (ir_nil))) (ir_c _))
def due (p n : D) : D := (m21 [.unk, .unk, .unk, .unk, .unk, .fro p, .fro n]).getD .non
set_option maxHeartbeats 0 in
theorem c_due : (prs.all fun p => nums.all fun n => (m21 [.unk, .unk, .unk, .unk, .unk, .fro p, .fro n]).isSome) = true := by decide +kernel
def words (p n : D) : D := .lst [zN p, zN n, zN n, zR, zR, zF, zF]
def m22 : M D := m2 (fEq false) (mAny 7) (mLc [9] (mItL (mFro 8)) (stN 9) (fun _ => some true) (mTup (mCons (mC (.str "raised")) (mCons (mFro 9) (mNil)))))
theorem x22 {c : Cc} : Ex c (tOp (rEqD c.K) (tVar 7) (tLc (iList c.K (tVar 8)) (gName 9) (tYes) (tTup (tCons (tC (.str "raised")) (tCons (tVar 9) (tNil)))) [9])) m22 := ex_op op_eqB (bx_var 7) ((ox_lc (wx_list (ex_var 8)) (gw_name 9) (tx_yes) (ex_tup (ax_cons (ex_str "raised") (ax_cons (ex_var 9) (ax_nil))))).b)
theorem i22 : Irr m22 := ir_m2 (ir_any 6) (ir_lc1 8 (ir_itl (ir_fro 7)) (irs_n 8) (ir_const _) (ir_tup (ir_cons (ir_c _) (ir_cons (ir_fro 8) (ir_nil)))))
set_option maxHeartbeats 0 in
theorem c_22 : (prs.all fun p => nums.all fun n => oeq (m22 [.unk, .unk, .unk, .unk, .unk, .unk, .unk, .own (words p n), .fro (due p n), .unk]) (.bl true)) = true := by decide +kernel
end K77

namespace K77
open PySem PySem.Spec PyProof.Rows L2 DL DN DX DG DZ LamX
theorem chain_short (n : Int) : ∀ k1 k2 : Bool, decide (-(10 ^ 60 : Int) < n) = k1 → decide (n < (10 ^ 60 : Int)) = k2 → r_is_short [.int n] = some (.bl (k1 && k2)) := by
  intro k1 k2 e1 e2
  show (match Option.map Fl.rt ((boolD (.bl (decide (-(10 ^ 60 : Int) < n)))).bind fun b => if b then some (.bl (decide (n < (10 ^ 60 : Int)))) else some (.bl false)) with
    | some (Fl.rt d) => some d
    | some (Fl.nx _) => some D.non
    | _ => none) = some (.bl (k1 && k2))
  rw [e1, e2]
  cases k1 <;> rfl
theorem int_n {n : Int} (h0 : 0 < n) (h1 : n ≤ 10 ^ 30) : r_is_integer [.int n] = some (.bl true) := by
  have s := chain_short n true true (decide_eq_true (by omega)) (decide_eq_true (by omega))
  show (match Option.map Fl.rt (r_is_short [.int n]) with
    | some (Fl.rt d) => some d
    | some (Fl.nx _) => some D.non
    | _ => none) = some (.bl true)
  rw [s]
  rfl
abbrev test2 : M Bool := mOr (mNot (mBool (mCall 1 r_is_integer (mCons (mFro 1) (mNil))))) (mBool (m2 (fB fun i j => decide (i < j)) (mAny 1) (mC (.int 1))))
theorem test_n {n : Int} (h0 : 0 < n) (h1 : n ≤ 10 ^ 30) {g : D} : test2 (initD 5 [g, .int n]) = some false := by
  have s := int_n h0 h1
  have t : decide (n < 1) = false := decide_eq_false (by omega)
  show (((r_is_integer [.int n]).bind boolD).map fun b => !b).bind (fun b => if b then some true else (some (D.bl (decide (n < 1)))).bind boolD) = some false
  rw [s, t]
  rfl
set_option maxHeartbeats 0 in
theorem c_gv1 : ((ex_need_group [GV]).isNone && (rx_need_group [GV]).isSome) = true := by decide +kernel
set_option maxHeartbeats 0 in
theorem c_gv2 : okE (ex_need_paper [GV]) zR = true := by decide +kernel
theorem c_any {n : Int} (h0 : 0 < n) (h1 : n ≤ 10 ^ 30) : okE (ex_list_again [GV, .int n]) zR = true := by
  obtain ⟨q1, q2⟩ := (Bool.and_eq_true _ _).mp c_gv1
  obtain ⟨z, q3⟩ := Option.isSome_iff_exists.mp q2
  have q1 : ex_need_group [GV] = none := Option.isNone_iff_eq_none.mp q1
  have t := test_n (g := GV) h0 h1
  have p : ex_list_again [GV, .int n] = ex_need_paper [GV] := by
    unfold ex_list_again runE melist_again mSeqE
    rw [show mCallE 1 ex_need_group (mCons (mFro 0) (mNil)) (initD 5 [GV, .int n]) = ex_need_group [GV] from rfl, q1]
    dsimp only
    rw [show (mCall 1 rx_need_group (mCons (mFro 0) (mNil))) (initD 5 [GV, .int n]) = rx_need_group [GV] from rfl, q3]
    dsimp only [Option.map]
    rw [show mIfEr test2 (mRaiseE aIN "given" (mCons (mFro 1) (mNil))) mNoE (initD 5 [GV, .int n]) = none from by unfold mIfEr; rw [t]; rfl]
    dsimp only
    rw [show mIf test2 mStop mNext (initD 5 [GV, .int n]) = some (.nx (initD 5 [GV, .int n])) from by unfold mIf; rw [t]; rfl]
    dsimp only
    rw [show mCallE 1 ex_need_paper (mCons (mFro 0) (mNil)) (initD 5 [GV, .int n]) = ex_need_paper [GV] from rfl]
    have c := c_gv2
    cases q : ex_need_paper [GV] with
    | none => rw [q] at c; cases c
    | some e => rfl
  rw [p]
  exact c_gv2

structure Exm3 (K : PySem.W.Frag) : Prop where
  all : ∀ a ∈ [aIG, aIN, aR], ∀ c ∈ cls3, PySem.W.exmOne K (.ref a) (.ref c.at) = some (a == c.at)
theorem ocE {K : PySem.W.Frag} (X3 : Exm3 K) {o : Option Er} {Z : D} (h : okE o Z = true) : ∃ er z, o = some er ∧ (∀ c ∈ cls3, PySem.W.exmOne K (.ref (Er.at er)) (.ref c.at) = some (Er.at er == c.at)) ∧ metE "raised" cls3 er = some z ∧ z = Z := by
  cases o with
  | none => cases h
  | some e =>
    obtain ⟨h1, h2⟩ := (Bool.and_eq_true _ _).mp (show ([aIG, aIN, aR].contains (Er.at e) && oeq (metE "raised" cls3 e) Z) = true from h)
    exact ⟨e, Z, rfl, X3.all _ (List.contains_iff_mem.mp h1), oeq_ok h2, rfl⟩
theorem ocF {o : Option D} (h : o.isSome = true) : ∃ d, o = some d ∧ twoD "raised" "fine" = zF := by
  obtain ⟨d, h⟩ := Option.isSome_iff_exists.mp h
  exact ⟨d, h, rfl⟩
theorem hi3 : ∀ c ∈ cls3, ∀ C f pre i, c = .kept C f pre i → i < (["_law_call", "error"] : List Str).length := by
  intro c hc C f pre i e
  simp only [cls3, List.mem_cons, List.not_mem_nil, or_false] at hc
  rcases hc with rfl | rfl | rfl
  · cases e
  · cases e; decide
  · cases e; decide
theorem seq_run {a b : TS} {D2 : Ends} {σ : L2.St} {H : Hp} (h : a { D2 with nx := b D2 } σ H) : tSeq a b D2 σ H := h
theorem in1 {α : Type} {l : List α} {f : α → Bool} (h : l.all f = true) {x : α} (m : x ∈ l) : f x = true := List.all_eq_true.mp h x m
theorem gr_one {d e : D} (h : D.lst [.str "c6", .str "s3"] = d) (m : e ∈ itemsD d) : e = .str "c6" ∨ e = .str "s3" := by
  subst h
  have m : e ∈ [D.str "c6", .str "s3"] := m
  simp only [List.mem_cons, List.not_mem_nil, or_false] at m
  exact m

def mP30 : M D := m2 (fI cPow fun i j => i ^ j.toNat) (mC (.int 10)) (mC (.int 30))
theorem xP30 {c : Cc} : Ex c (tOp rPowW (tC (.int 10)) (tC (.int 30))) mP30 := ex_op (op_rI (g := fun i j => i ^ j.toNat) cPow_ok) ((ex_int 10).b) ((ex_int 30).b)
theorem iP30 : Irr mP30 := ir_m2 (ir_c _) (ir_c _)
set_option maxHeartbeats 0 in
theorem eP30 (δ : DS) : mP30 δ = some (.int (10 ^ 30)) := (show mP30 δ = mP30 [] from rfl).trans (oeq_ok (by decide +kernel))
def mP59 : M D := m2 (fI cPow fun i j => i ^ j.toNat) (mC (.int 10)) (mC (.int 59))
theorem xP59 {c : Cc} : Ex c (tOp rPowW (tC (.int 10)) (tC (.int 59))) mP59 := ex_op (op_rI (g := fun i j => i ^ j.toNat) cPow_ok) ((ex_int 10).b) ((ex_int 59).b)
theorem iP59 : Irr mP59 := ir_m2 (ir_c _) (ir_c _)
set_option maxHeartbeats 0 in
theorem eP59 (δ : DS) : mP59 δ = some (.int (10 ^ 59)) := (show mP59 δ = mP59 [] from rfl).trans (oeq_ok (by decide +kernel))
theorem op_add1 {c : Cc} : OpF c (rI0 fun i j => V.int (i + j)) (fI (fun _ _ => true) fun i j => i + j) := fun F H x y d e z Q s r1 r2 h k => op_rI0 (g := fun i j => i + j) F H x y d e z Q s (r1.mono s) (r2.mono s) h k
set_option maxHeartbeats 4000000 in
theorem pure_right {K : PySem.W.Frag} {T : List (Addr × Str)} (X3 : Exm3 K) (vs : List V) (H : Hp) (Q : VK) (E : XK) (h : spRight T vs H Q E) : t_right K T { nx := fun _ H' => Q .non H', rt := Q } (L2.start N_right vs) H := by
  obtain ⟨a, rfl, dA, tA, k⟩ := h
  have S : ZR K T a H (fun _ => none) H (L2.start N_right [.ref a]) [.unk, .unk, .unk, .unk, .unk, .unk, .unk, .unk, .unk] := ZR.start dA tA
  unfold t_right
  refine seq_run ?_
  unfold u0
  refine ZR.asgX (i := 0) (ZX.one (ZX.of (m := mL0) (fun _ _ => xL0) iL0 (d := .lst nones) (eL0 _)) (fun d e => by subst e; exact ⟨by decide, by decide⟩)) S fun q _ _ _ r S _ => ?_
  obtain ⟨_, rfl, m_q⟩ := r
  have m_q : q ∈ nones := m_q
  have S : ZR K T a H _ _ _ [.fro q, .unk, .unk, .unk, .unk, .unk, .unk, .unk, .unk] := S
  dsimp only
  refine seq_run ?_
  unfold u1
  refine ZR.asgX (i := 1) (ZX.of (t := tCall (spO K 0 r_law_ready_moves) [] E0 tNil) (m := mCall 0 r_law_ready_moves mNil) (fun _ _ => (ox_callO ax_nil).x) (ir_call ir_nil) (d := readyA) (by show (if ([] : List D).length = 0 then r_law_ready_moves [] else none) = some readyA; exact (if_pos List.length_nil).trans ready_is)) S fun _ _ _ _ r S _ => ?_
  subst r
  have S : ZR K T a H _ _ _ [.fro q, .fro readyA, .unk, .unk, .unk, .unk, .unk, .unk, .unk] := S
  dsimp only
  refine seq_run ?_
  unfold u2
  have zh : ZX K T a H [.fro q, .fro readyA, .unk, .unk, .unk, .unk, .unk, .unk, .unk] (tMake aG (spSelf K aG r_self_init) [] E0 (tCons (tDGet (tVar 2) (tCall (spOne K) [] E0 (tCons (tVar 0) (tCons (tLst (tCons (tC (.str "c6")) (tCons (tC (.str "s3")) (tNil)))) (tNil))))) tNil)) (fun z => z = G6 ∨ z = G3) := by
    refine ZX.via1 (i := 1) (dx := readyA) (w := fun t => tMake aG (spSelf K aG r_self_init) [] E0 (tCons (tDGet (tVar 2) t) tNil)) (body := fun x v H1 Q => tMake aG (spSelf K aG r_self_init) [] E0 (tCons (tDGet (fun _ H Q => Q x H) (fun _ H Q => Q v H)) tNil) [] H1 Q) (fun _ _ _ _ => rfl) rfl (ZX.one (ZX.of (m := mL2) (fun _ _ => xL2) iL2 (d := .lst [.str "c6", .str "s3"]) (eL2 _)) (fun d e => by subst e; exact ⟨by decide, by decide⟩)) fun e r => ?_
    obtain ⟨d0, e0, m0⟩ := r
    rcases gr_one e0.symm m0 with rfl | rfl
    · exact ZX.imp (R := fun z => z = G6) (ZX.of (m := mF r_self_init (m2 fGetI (mAny 2) (mFro 10))) (fun _ _ => (ox_make (ex_dget (bx_var 2) (ex_var 10).b)).x) (ir_f (ir_m2 (ir_any 1) (ir_fro 9))) (d := G6) g6_is) fun z e => .inl e
    · exact ZX.imp (R := fun z => z = G3) (ZX.of (m := mF r_self_init (m2 fGetI (mAny 2) (mFro 10))) (fun _ _ => (ox_make (ex_dget (bx_var 2) (ex_var 10).b)).x) (ir_f (ir_m2 (ir_any 1) (ir_fro 9))) (d := G3) g3_is) fun z e => .inr e
  have zv : ZX K T a H [.fro q, .fro readyA, .unk, .unk, .unk, .unk, .unk, .unk, .unk] (tMake aG (spSelf K aG r_self_init) [] E0 (tCons (tDGet (tVar 2) (tC (.str "v4"))) tNil)) (fun z => z = GV) := ZX.of (m := mF r_self_init (m2 fGetI (mAny 2) (mC (.str "v4")))) (fun _ _ => (ox_make (ex_dget (bx_var 2) (ex_str "v4").b)).x) (ir_f (ir_m2 (ir_any 1) (ir_c _))) gv_is
  refine ZR.par2 (i := 2) (j := 3) (ZA.cons zh (ZA.cons zv ZA.nil)) (fun ds e => by obtain ⟨d, _, rfl, _, e, _, rfl, _, rfl⟩ := e; exact ⟨d, e, rfl⟩) S fun g v _ _ _ r S _ => ?_
  obtain ⟨_, _, e1, hg, _, _, e2, hv, e3⟩ := r
  cases e1
  cases e2
  subst hv
  have m_g : g ∈ [G6, G3] := by rcases hg with rfl | rfl <;> simp
  have m_g3 : g ∈ [G6, G3, GV] := by rcases hg with rfl | rfl <;> simp
  have S : ZR K T a H _ _ _ [.fro q, .fro readyA, .fro g, .fro GV, .unk, .unk, .unk, .unk, .unk] := S
  dsimp only
  refine seq_run ?_
  unfold u3
  refine ZR.asgX (i := 4) (ZX.one (ZX.of (m := mL3) (fun _ _ => xL3) iL3 (d := .lst prs) (eL3 _)) (fun d e => by subst e; exact ⟨by decide, by decide⟩)) S fun p _ _ _ r S _ => ?_
  obtain ⟨_, rfl, m_p⟩ := r
  have m_p : p ∈ prs := m_p
  have S : ZR K T a H _ _ _ [.fro q, .fro readyA, .fro g, .fro GV, .fro p, .unk, .unk, .unk, .unk] := S
  dsimp only
  refine seq_run ?_
  unfold u4
  refine ZR.asgX (i := 5) (ZX.one (ZX.of (m := mL4) (fun _ _ => xL4) iL4 (d := .lst nums) (eL4 _)) (fun d e => by subst e; exact ⟨by decide, by decide⟩)) S fun n _ _ _ r S _ => ?_
  obtain ⟨_, rfl, m_n⟩ := r
  have m_n : n ∈ nums := m_n
  have S : ZR K T a H _ _ _ [.fro q, .fro readyA, .fro g, .fro GV, .fro p, .fro n, .unk, .unk, .unk] := S
  dsimp only
  refine seq_run ?_
  unfold u5
  refine ZR.lstX (i := 6) (ZA.cons (ZX.met (R := fun z => z = zG) (ZA.of (m := mCons (mFro 1) (mNil)) (fun _ _ => ax_cons (ex_var 1) (ax_nil)) (ir_cons (ir_fro 0) (ir_nil)) (ds := [q]) rfl) hi3 (fun ds e => by subst e; exact ⟨rfl, .inr (ocE X3 (in1 c_bar m_q))⟩)) ZA.nil) (fun ds e => by obtain ⟨_, _, rfl, rfl, rfl⟩ := e; show 1 ≤ sizeLine; decide) S fun _ _ _ _ r S _ => ?_
  obtain ⟨_, _, rfl, rfl, rfl⟩ := r
  have S : ZR K T a H _ _ _ [.fro q, .fro readyA, .fro g, .fro GV, .fro p, .fro n, .own (.lst [zG]), .unk, .unk] := S
  dsimp only
  refine seq_run ?_
  unfold u6
  refine ZR.appX (i := 6) (ds := [zG]) (ZX.met (R := fun z => z = zG) (ZA.of (m := mCons (mFro 1) (mCons (mC .non) (mNil))) (fun _ _ => ax_cons (ex_var 1) (ax_cons (ex_non) (ax_nil))) (ir_cons (ir_fro 0) (ir_cons (ir_c _) (ir_nil))) (ds := [q, .non]) rfl) hi3 (fun ds e => by subst e; exact ⟨rfl, .inr (ocE X3 (in1 c_isbar m_q))⟩)) rfl (by show 1 < sizeLine; decide) S fun _ _ _ _ r S _ => ?_
  subst r
  have S : ZR K T a H _ _ _ [.fro q, .fro readyA, .fro g, .fro GV, .fro p, .fro n, .own (.lst [zG, zG]), .unk, .unk] := S
  dsimp only
  refine seq_run ?_
  unfold u7
  refine ZR.appX (i := 6) (ds := [zG, zG]) (ZX.met (R := fun z => z = zG) (ZA.of (m := mCons (mFro 1) (mNil)) (fun _ _ => ax_cons (ex_var 1) (ax_nil)) (ir_cons (ir_fro 0) (ir_nil)) (ds := [q]) rfl) hi3 (fun ds e => by subst e; exact ⟨rfl, .inr (ocE X3 (in1 c_paper m_q))⟩)) rfl (by show 2 < sizeLine; decide) S fun _ _ _ _ r S _ => ?_
  subst r
  have S : ZR K T a H _ _ _ [.fro q, .fro readyA, .fro g, .fro GV, .fro p, .fro n, .own (.lst [zG, zG, zG]), .unk, .unk] := S
  dsimp only
  refine seq_run ?_
  unfold u8
  refine ZR.appX (i := 6) (ds := [zG, zG, zG]) (ZX.met (R := fun z => z = zG) (ZA.of (m := mCons (mFro 1) (mCons (mTup (mNil)) (mNil))) (fun _ _ => ax_cons (ex_var 1) (ax_cons (ex_tup (ax_nil)) (ax_nil))) (ir_cons (ir_fro 0) (ir_cons (ir_tup (ir_nil)) (ir_nil))) (ds := [q, .tup []]) rfl) hi3 (fun ds e => by subst e; exact ⟨rfl, .inr (ocE X3 (in1 c_ispaper m_q))⟩)) rfl (by show 3 < sizeLine; decide) S fun _ _ _ _ r S _ => ?_
  subst r
  have S : ZR K T a H _ _ _ [.fro q, .fro readyA, .fro g, .fro GV, .fro p, .fro n, .own (.lst [zG, zG, zG, zG]), .unk, .unk] := S
  dsimp only
  refine seq_run ?_
  unfold u9
  refine ZR.appX (i := 6) (ds := [zG, zG, zG, zG]) (ZX.met (R := fun z => z = zG) (ZA.of (m := mCons (mFro 1) (mCons (mFro 5) (mNil))) (fun _ _ => ax_cons (ex_var 1) (ax_cons (ex_var 5) (ax_nil))) (ir_cons (ir_fro 0) (ir_cons (ir_fro 4) (ir_nil))) (ds := [q, p]) rfl) hi3 (fun ds e => by subst e; exact ⟨rfl, .inr (ocE X3 (in1 (in1 c_turns m_q) m_p))⟩)) rfl (by show 4 < sizeLine; decide) S fun _ _ _ _ r S _ => ?_
  subst r
  have S : ZR K T a H _ _ _ [.fro q, .fro readyA, .fro g, .fro GV, .fro p, .fro n, .own (.lst [zG, zG, zG, zG, zG]), .unk, .unk] := S
  dsimp only
  refine seq_run ?_
  unfold u10
  refine ZR.appX (i := 6) (ds := [zG, zG, zG, zG, zG]) (ZX.met (R := fun z => z = zG) (ZA.of (m := mCons (mFro 1) (mNil)) (fun _ _ => ax_cons (ex_var 1) (ax_nil)) (ir_cons (ir_fro 0) (ir_nil)) (ds := [q]) rfl) hi3 (fun ds e => by subst e; exact ⟨rfl, .inr (ocE X3 (in1 c_step m_q))⟩)) rfl (by show 5 < sizeLine; decide) S fun _ _ _ _ r S _ => ?_
  subst r
  have S : ZR K T a H _ _ _ [.fro q, .fro readyA, .fro g, .fro GV, .fro p, .fro n, .own (.lst [zG, zG, zG, zG, zG, zG]), .unk, .unk] := S
  dsimp only
  refine seq_run ?_
  unfold u11
  refine ZR.appX (i := 6) (ds := [zG, zG, zG, zG, zG, zG]) (ZX.met (R := fun z => z = zG) (ZA.of (m := mCons (mFro 1) (mCons (mFro 6) (mNil))) (fun _ _ => ax_cons (ex_var 1) (ax_cons (ex_var 6) (ax_nil))) (ir_cons (ir_fro 0) (ir_cons (ir_fro 5) (ir_nil))) (ds := [q, n]) rfl) hi3 (fun ds e => by subst e; exact ⟨rfl, .inr (ocE X3 (in1 (in1 c_list m_q) m_n))⟩)) rfl (by show 6 < sizeLine; decide) S fun _ _ _ _ r S _ => ?_
  subst r
  have S : ZR K T a H _ _ _ [.fro q, .fro readyA, .fro g, .fro GV, .fro p, .fro n, .own (.lst [zG, zG, zG, zG, zG, zG, zG]), .unk, .unk] := S
  dsimp only
  refine seq_run ?_
  unfold u12
  refine ZR.appX (i := 6) (ds := [zG, zG, zG, zG, zG, zG, zG]) (ZX.met (R := fun z => z = zG) (ZA.of (m := mCons (mFro 1) (mNil)) (fun _ _ => ax_cons (ex_var 1) (ax_nil)) (ir_cons (ir_fro 0) (ir_nil)) (ds := [q]) rfl) hi3 (fun ds e => by subst e; exact ⟨rfl, .inr (ocE X3 (in1 c_made m_q))⟩)) rfl (by show 7 < sizeLine; decide) S fun _ _ _ _ r S _ => ?_
  subst r
  have S : ZR K T a H _ _ _ [.fro q, .fro readyA, .fro g, .fro GV, .fro p, .fro n, .own (.lst [zG, zG, zG, zG, zG, zG, zG, zG]), .unk, .unk] := S
  dsimp only
  refine seq_run ?_
  refine ZR.sx (t := u13 K T) (m := mIf (mBool (m2 (fEq true) (mAny 7) (m2 fRepL (mLst (mCons (mTup (mCons (mC (.str "raised")) (mCons (mC (.str "group")) (mNil)))) (mNil))) (mC (.int 8))))) (mRet (mC (.bl false))) (mNext)) (fun _ _ => sx_if (tx_test (ex_op op_neB (bx_var 7) ((ox_repL ((ox_lst (ax_cons (ex_tup (ax_cons (ex_str "raised") (ax_cons (ex_str "group") (ax_nil)))) (ax_nil))).b) ((ex_int 8).b)).b)).b) (sx_ret (ex_bl false)) (sx_next)) (if_if (ir_bool (ir_m2 (ir_any 6) (ir_m2 (ir_lst (ir_cons (ir_tup (ir_cons (ir_c _) (ir_cons (ir_c _) (ir_nil)))) (ir_nil))) (ir_c _)))) (if_ret (ir_c _)) (if_next)) (ρ' := [.fro q, .fro readyA, .fro g, .fro GV, .fro p, .fro n, .own (.lst [zG, zG, zG, zG, zG, zG, zG, zG]), .unk, .unk]) (s0 := .unk) (by show (m13 (.unk :: [.fro q, .fro readyA, .fro g, .fro GV, .fro p, .fro n, .own (.lst [zG, zG, zG, zG, zG, zG, zG, zG]), .unk, .unk])).bind _ = _; rw [e13 _ rfl]; rfl) S fun _ _ _ S _ => ?_
  dsimp only
  refine seq_run ?_
  unfold u14
  refine ZR.lstX (i := 6) (ZA.cons (ZX.met (R := fun z => z = zN p) (ZA.of (m := mCons (mFro 3) (mCons (mFro 5) (mNil))) (fun _ _ => ax_cons (ex_var 3) (ax_cons (ex_var 5) (ax_nil))) (ir_cons (ir_fro 2) (ir_cons (ir_fro 4) (ir_nil))) (ds := [g, p]) rfl) hi3 (fun ds e => by subst e; exact ⟨rfl, .inr (ocE X3 (in1 (in1 c_t6 m_g) m_p))⟩)) ZA.nil) (fun ds e => by obtain ⟨_, _, rfl, rfl, rfl⟩ := e; show 1 ≤ sizeLine; decide) S fun _ _ _ _ r S _ => ?_
  obtain ⟨_, _, rfl, rfl, rfl⟩ := r
  have S : ZR K T a H _ _ _ [.fro q, .fro readyA, .fro g, .fro GV, .fro p, .fro n, .own (.lst [zN p]), .unk, .unk] := S
  dsimp only
  refine seq_run ?_
  unfold u15
  refine ZR.appX (i := 6) (ds := [zN p]) (ZX.met (R := fun z => z = zN n) (ZA.of (m := mCons (mFro 3) (mCons (mFro 6) (mNil))) (fun _ _ => ax_cons (ex_var 3) (ax_cons (ex_var 6) (ax_nil))) (ir_cons (ir_fro 2) (ir_cons (ir_fro 5) (ir_nil))) (ds := [g, n]) rfl) hi3 (fun ds e => by subst e; exact ⟨rfl, .inr (ocE X3 (in1 (in1 c_l6 m_g3) m_n))⟩)) rfl (by show 1 < sizeLine; decide) S fun _ _ _ _ r S _ => ?_
  subst r
  have S : ZR K T a H _ _ _ [.fro q, .fro readyA, .fro g, .fro GV, .fro p, .fro n, .own (.lst [zN p, zN n]), .unk, .unk] := S
  dsimp only
  refine seq_run ?_
  unfold u16
  refine ZR.appX (i := 6) (ds := [zN p, zN n]) (ZX.met (R := fun z => z = zN n) (ZA.of (m := mCons (mFro 4) (mCons (mFro 6) (mNil))) (fun _ _ => ax_cons (ex_var 4) (ax_cons (ex_var 6) (ax_nil))) (ir_cons (ir_fro 3) (ir_cons (ir_fro 5) (ir_nil))) (ds := [GV, n]) rfl) hi3 (fun ds e => by subst e; exact ⟨rfl, .inr (ocE X3 (in1 (in1 c_l6 (by simp)) m_n))⟩)) rfl (by show 2 < sizeLine; decide) S fun _ _ _ _ r S _ => ?_
  subst r
  have S : ZR K T a H _ _ _ [.fro q, .fro readyA, .fro g, .fro GV, .fro p, .fro n, .own (.lst [zN p, zN n, zN n]), .unk, .unk] := S
  dsimp only
  refine seq_run ?_
  unfold u17
  refine ZR.appX (i := 6) (ds := [zN p, zN n, zN n]) (ZX.met (R := fun z => z = zR) (ZA.cons (ZX.of (m := mFro 4) (fun _ _ => ex_var 4) (ir_fro 3) (d := GV) rfl) (ZA.cons (ZX.opF (Rz := fun e => ∃ r : Int, 0 ≤ r ∧ r < 10 ^ 30 ∧ e = .int (1 + r)) (fun _ _ => op_add1) (ZX.of (m := mC (.int 1)) (fun _ _ => ex_int 1) (ir_c _) (d := .int 1) rfl) (ZX.rollW (n := 10 ^ 30) (ZX.of (m := mP30) (fun _ _ => xP30) iP30 (d := .int (10 ^ 30)) (eP30 _)) (by decide) (by decide)) (fun x y e1 e2 => by obtain ⟨r, r0, r1, rfl⟩ := e2; subst e1; exact ⟨_, rfl, r, r0, r1, rfl⟩)) ZA.nil)) hi3
    (fun ds e => by
      obtain ⟨_, _, rfl, rfl, _, _, rfl, ⟨r, r0, r1, rfl⟩, rfl⟩ := e
      exact ⟨rfl, .inr (ocE X3 (c_any (by omega) (by omega)))⟩)) rfl (by show 3 < sizeLine; decide) S fun _ _ _ _ r S _ => ?_
  subst r
  have S : ZR K T a H _ _ _ [.fro q, .fro readyA, .fro g, .fro GV, .fro p, .fro n, .own (.lst [zN p, zN n, zN n, zR]), .unk, .unk] := S
  dsimp only
  refine seq_run ?_
  unfold u18
  refine ZR.appX (i := 6) (ds := [zN p, zN n, zN n, zR]) (ZX.met (R := fun z => z = zR) (ZA.of (m := mCons (mFro 4) (mNil)) (fun _ _ => ax_cons (ex_var 4) (ax_nil)) (ir_cons (ir_fro 3) (ir_nil)) (ds := [GV]) rfl) hi3 (fun ds e => by subst e; exact ⟨rfl, .inr (ocE X3 (c_sv))⟩)) rfl (by show 4 < sizeLine; decide) S fun _ _ _ _ r S _ => ?_
  subst r
  have S : ZR K T a H _ _ _ [.fro q, .fro readyA, .fro g, .fro GV, .fro p, .fro n, .own (.lst [zN p, zN n, zN n, zR, zR]), .unk, .unk] := S
  dsimp only
  refine seq_run ?_
  unfold u19
  refine ZR.appX (i := 6) (ds := [zN p, zN n, zN n, zR, zR]) (ZX.met (R := fun z => z = zF) (ZA.of (m := mCons (mFro 4) (mCons (mC (.int 2)) (mNil))) (fun _ _ => ax_cons (ex_var 4) (ax_cons (ex_int 2) (ax_nil))) (ir_cons (ir_fro 3) (ir_cons (ir_c _) (ir_nil))) (ds := [GV, .int 2]) rfl) hi3 (fun ds e => by subst e; exact ⟨rfl, .inl (ocF c_tv)⟩)) rfl (by show 5 < sizeLine; decide) S fun _ _ _ _ r S _ => ?_
  subst r
  have S : ZR K T a H _ _ _ [.fro q, .fro readyA, .fro g, .fro GV, .fro p, .fro n, .own (.lst [zN p, zN n, zN n, zR, zR, zF]), .unk, .unk] := S
  dsimp only
  refine seq_run ?_
  unfold u20
  refine ZR.appX (i := 6) (ds := [zN p, zN n, zN n, zR, zR, zF]) (ZX.met (R := fun z => z = zF) (ZA.cons (ZX.of (m := mFro 3) (fun _ _ => ex_var 3) (ir_fro 2) (d := g) rfl) (ZA.cons (ZX.of (m := mP59) (fun _ _ => xP59) iP59 (d := .int (10 ^ 59)) (eP59 _)) ZA.nil)) hi3
    (fun ds e => by
      obtain ⟨_, _, rfl, rfl, _, _, rfl, rfl, rfl⟩ := e
      exact ⟨rfl, .inl (ocF (in1 c_fine m_g))⟩)) rfl (by show 6 < sizeLine; decide) S fun _ _ _ _ r S _ => ?_
  subst r
  have S : ZR K T a H _ _ _ [.fro q, .fro readyA, .fro g, .fro GV, .fro p, .fro n, .own (.lst [zN p, zN n, zN n, zR, zR, zF, zF]), .unk, .unk] := S
  dsimp only
  refine seq_run ?_
  unfold u21
  refine ZR.asgX (i := 7) (ZX.of (t := tOp rCat (tOp rCat (tOp rCat (tLst (tCons (tOp (rCatS) (tC (.str "number ")) (tCB (rReprD K) (tCons (tVar 5) (tNil)))) (tNil))) (tOp rRep (tLst (tCons (tOp (rCatS) (tC (.str "number ")) (tCB (rReprD K) (tCons (tVar 6) (tNil)))) (tNil))) (tC (.int 2)))) (tOp rRep (tLst (tCons (tOp (rCatS) (tC (.str "refused ")) (tCB (rReprD K) (tCons (tTup (tCons (tC (.str "bar")) (tNil))) (tNil)))) (tNil))) (tC (.int 2)))) (tOp rRep (tLst (tCons (tC (.str "fine")) (tNil))) (tC (.int 2)))) (m := m21) (fun _ _ => x21) i21 (d := due p n) (by
    obtain ⟨z, hz⟩ := Option.isSome_iff_exists.mp (in1 (in1 c_due m_p) m_n)
    show m21 [.unk, .unk, .unk, .unk, .unk, .fro p, .fro n] = some (due p n)
    unfold due
    rw [hz]
    rfl)) S fun _ _ _ _ r S _ => ?_
  subst r
  have S : ZR K T a H _ _ _ [.fro q, .fro readyA, .fro g, .fro GV, .fro p, .fro n, .own (.lst [zN p, zN n, zN n, zR, zR, zF, zF]), .fro (due p n), .unk] := S
  have S := ((((((ZR.forget S 0).forget 1).forget 2).forget 3).forget 4).forget 5)
  have S : ZR K T a H _ _ _ [.unk, .unk, .unk, .unk, .unk, .unk, .own (.lst [zN p, zN n, zN n, zR, zR, zF, zF]), .fro (due p n), .unk] := S
  dsimp only
  refine ZR.rt (t := u22 K T) (m := mRet m22) (fun _ _ => sx_ret x22) (if_ret i22) (d := .bl true) (by
    have z := oeq_ok (in1 (in1 c_22 m_p) m_n)
    show (m22 [.unk, .unk, .unk, .unk, .unk, .unk, .unk, .own (words p n), .fro (due p n), .unk]).map Fl.rt = some (.rt (.bl true))
    rw [z]
    rfl) S fun v F' H' st t' dA' r => ?_
  obtain rfl := rp_bl r
  exact k H' st t' dA'
end K77

namespace K77
open PySem PySem.Spec PyProof.Rows L2 DL DN DX DG DZ LamX
section
variable {P : Program} {w : World} {K : PySem.W.Frag} {mg : Str → Option Value} {base : Heap}
theorem sclaw : FnScope ["_law_script", "_law_at"] ["_law_script"] (defScope slaw) := ⟨rfl, rfl, rfl, by decide +kernel, rfl, by decide +kernel, by decide +kernel⟩
def rMax2 : List V → Hp → VK → Prop := fun xs H Q => ∃ i j, xs = [.int i, .int j] ∧ Q (.int (if j > i then j else i)) H
def rMin2 : List V → Hp → VK → Prop := fun xs H Q => ∃ i j, xs = [.int i, .int j] ∧ Q (.int (if j < i then j else i)) H
theorem hMax2 {X : Cx} (hc : X.calm = true) : CallR X (.builtin "max") rMax2 := call_max2 hc
theorem hMin2 {X : Cx} (hc : X.calm = true) : CallR X (.builtin "min") rMin2 := call_min2 hc
def spLaw (K : PySem.W.Frag) (T : List (Addr × Str)) : Sp := fun vs H Q _ => ∃ (b : Addr) (ns : List Int), vs = [.ref b] ∧ Tabs T H ∧ SqL K H b (ns.map V.int) ∧ ∀ H', Q (.bl true) H'
theorem sql_mono {K : PySem.W.Frag} {H H' : Hp} {b : Addr} {xs : List V} (e : ∀ o, H b = some o → isG o = false → H' b = some o) (h : SqL K H b xs) : SqL K H' b xs := by
  rcases h with (h | ⟨o, h⟩) | h
  · exact .inl (.inl (e _ h rfl))
  · exact .inl (.inr ⟨o, e _ h rfl⟩)
  · exact .inr h
def t_bodyL (K : PySem.W.Frag) (T : List (Addr × Str)) : TS := tIfS (tNot (tB (tCall (spRight T) [] E0 (tCons (tCall (spDice K) [] E0 (tCons (tVar 0) (tCons (tVar 1) tNil))) tNil)))) (tRet (tC (.bl false))) tNext
def t_law (K : PySem.W.Frag) (T : List (Addr × Str)) : TS := tSeq (tFor (iRng1 (tCons (tCB rMax2 (tCons (tC (.int 1)) (tCons (tCB rMin2 (tCons (tCB (rLenQ K) (tCons (tVar 0) tNil)) (tCons (tC (.int 5)) tNil))) tNil))) tNil)) (gName 1) (t_bodyL K T)) (tRet (tC (.bl true)))
theorem pure_law {K : PySem.W.Frag} {T : List (Addr × Str)} (vs : List V) (H : Hp) (Q : VK) (E : XK) (h : spLaw K T vs H Q E) :
    t_law K T { nx := fun _ H' => Q .non H', rt := Q } (L2.start ["_law_script", "_law_at"] vs) H := by
  obtain ⟨b, ns, rfl, tb, hs, k⟩ := h
  suffices key : ∀ D0 : Ends, D0.rt = Q → t_law K T D0 (L2.start ["_law_script", "_law_at"] [.ref b]) H from key _ rfl
  intro D0 hD
  have hn : ∃ n : Int, n < 64 ∧ 0 ≤ n ∧ (if (if (5 : Int) < ((ns.map V.int).length : Int) then (5 : Int) else ((ns.map V.int).length : Int)) > 1 then (if (5 : Int) < ((ns.map V.int).length : Int) then (5 : Int) else ((ns.map V.int).length : Int)) else 1) = n := by
    refine ⟨_, ?_, ?_, rfl⟩
    · repeat' split
      all_goals omega
    · repeat' split
      all_goals omega
  obtain ⟨n, n1, n0, hn⟩ := hn
  refine ⟨_, rfl, b, _, rfl, .inl hs, _, _, rfl, _, _, rfl, n, by rw [hn], by omega, by omega, for_range (D := { D0 with nx := tRet (tC (.bl true)) D0 }) (n := n.toNat) (tb := t_bodyL K T) (fun i σ H' => ∃ y, σ = [some (.ref b), y] ∧ Tabs T H' ∧ SqL K H' b (ns.map V.int)) ⟨none, rfl, tb, hs⟩ ?_ ?_⟩
  · rintro i σ H1 hi ⟨y, rfl, tb1, hs1⟩
    refine ⟨_, rfl, _, rfl, ?_⟩
    refine ⟨b, ns, 0 + i, rfl, hs1, by omega, by omega, fun a H2 ha d o => ?_⟩
    have s2 : ∀ u z, H1 u = some z → H2 u = some z := fun u z e => by rw [o u (fun z => by subst z; rw [ha] at e; cases e)]; exact e
    refine ⟨a, rfl, d, tb1.ext s2, fun H3 s t3 d3 => ⟨true, rfl, ?_⟩⟩
    refine ⟨_, rfl, t3, sql_mono (fun u e g => ?_) hs1⟩
    have hb : b ≠ a := fun z => by subst z; rw [ha] at e; cases e
    exact (noT_some (s b u hb (noT_of (s2 b u e) g))).1
  · rintro σ H1 _
    show D0.rt _ _
    rw [hD]
    exact k H1
/-- a def that is called while no repr is under way -/
structure OwnG (P : Program) (w : World) (K : PySem.W.Frag) (mg : Str → Option Value) (base : Heap) (lvl : Nat) (x : Str) (sp : Sp) where
  f : Addr
  fd : FuncData
  ps : List Str
  F : FnG P w K mg base CX0 lvl f fd ps sp
  g : mg x = some (.ref f)
  k : PySem.W.keepIn K (.ref f) = true
  b : Binds K fd ps []
theorem ok_law {T : List (Addr × Str)} {c f : Addr} {fd : FuncData} (F : FunC K "law" "law" slaw f fd c) (Dd : OwnS P w K mg base 1 "_law_dice" (spDice K)) (Dr : OwnG P w K mg base 15 "_law_right" (spRight T)) (z_range : mg "range" = none) (z_max : mg "max" = none) (z_min : mg "min" = none) (z_len : mg "len" = none) : FnG P w K mg base CX0 16 f fd ["_law_script"] (spLaw K T) := by
  have sc := sclaw
  refine DG.FunC.okG F sc (fun vs H Q E h => by obtain ⟨b, ns, rfl, _⟩ := h; rfl) (fun A outer s H vs Q E gd hr h => ⟨t_law K T, ?_, pure_law vs H Q E h⟩)
  exact pss_cons (ps_for PassesOwn.never rfl (pi_range1 rfl z_range (pa_cons (pe_callB (hMax2 rfl) rfl z_max (by decide +kernel) (pa_cons pe_int (pa_cons (pe_callB (hMin2 rfl) rfl z_min (by decide +kernel) (pa_cons (pe_callB hLenQ rfl z_len (by decide +kernel) (pa_cons (pv 0) pa_nil)) (pa_cons pe_int pa_nil))) pa_nil))) pa_nil)) (pg_name (i := 1) sc.nd rfl (.inl rfl))
      (pss_one (ps_if (pt_not (pt_val (pe_callG Dr.F gd (hr.mono (by decide)) rfl Dr.g Dr.k Dr.b pass0 (pa_cons (pe_call Dd.F (hr.mono (by decide)) rfl Dd.g Dd.k Dd.b .nil pass0 (pa_cons (pv 0) (pa_cons (pv 1) pa_nil))) pa_nil)) (fun _ => rfl))) (pss_one (ps_ret pe_bl)) pss_nil)))
    (pss_one (ps_ret pe_bl))
end
/-- the end of a row whose law wants that no repr is under way -/
theorem walk_G {l : PySem.W.OpenLaw} {n k : Nat} {q : Program} {loose : List Str} {XP : (Str → Option Value) → Heap → Prop} {YP : World → Heap → Prop} {d : DefRec} {K : Params → PySem.W.Frag} {x : Str}
    (hn : l.most = some n) (hn2 : n ≤ sizeLine) (hdf : d.params.defaults = []) (hr : Room k callerA) (hY : ∀ (w : World) (h : Heap), YP w h → (K w.params).In h)
    (F : ∀ (w : World) (mg : Str → Option Value) (fa : Addr) (h : Heap), YP w h → (K w.params).In h → h.Ns mainGlobals mg → mg d.name = some (.ref fa) →
      (∀ (x : Str) (e : DefRec) (c P : Addr), (recsOf q).find? (fun e => e.name == x) = some e → PySem.W.tabIn (K w.params) x = some (c, P) → PySem.W.CodeHd h c P ∧ h.get? P = some (PySem.W.tabObj #[])) →
      ∃ (fd : FuncData) (cs : List (Addr × Addr)) (sp : Sp), (∀ p ∈ cs, h.get? p.2 = some (PySem.W.tabObj #[])) ∧ (∀ p ∈ cs, (K w.params).lookup p.2 = none) ∧ (∀ p ∈ cs, PySem.W.CodeHd h p.1 p.2) ∧ (∀ (s : Shared) (u : Value), BindsTo s fd ⟨[u], []⟩ [(x, u)]) ∧
        (∀ (H : Hp) (a : Addr) (ns : List Int), (∀ p ∈ cs, H p.2 = some (.tbl #[])) → SqL (K w.params) H a (ns.map V.int) → sp [.ref a] H (fun v _ => v = .bl true) fun _ _ _ => False) ∧
        ∀ base : Heap, (K w.params).In base → base.Ns mainGlobals mg → (∀ p ∈ cs, TabB base mg p.1 p.2) → FnG l.prog w (K w.params) mg base CX0 k fa fd [x] sp) :
    PySem.W.WalkO q loose XP YP l.row.toRowW d [] (fun f vs => PySem.call f vs) := by
  refine Att.attach_callB hn hdf fun w s₀ s₁ mg mb fa o pm cd doc a vs ns G Y ho hd hcd hmg hobj hints hlen hbits hg => ?_
  have KX := hY w _ Y
  obtain ⟨fd, cs, sp, hT, nT, C, hb, hsp, hF⟩ := F w mg fa _ Y KX G.T.g hmg fun x e c P h1 h2 => PySem.W.tab_of G.T KX h1 h2
  obtain ⟨H, hH, hS, e0, k1, k2, k3, old⟩ := begin_T (P := l.prog) (w := w) KX G.T.g G.T.b G.T.builtins G.T.nolimit hg hT nT C G.T.bmain hobj hints (Nat.le_trans hlen hn2)
  refine codeAny_mono ((hF _ k1 k2 k3).go callerA [] s₁ H ⟨[.ref a], []⟩ [.ref a] [.ref a] _ _ rfl hr e0 (hb s₁ (.ref a)) (.cons rfl .nil) (hsp H a ns hH hS)) fun r s' z => ?_
  match r, z with
  | .error e, z => exact (show False from z).elim
  | .ok (.ret u), z =>
    obtain ⟨v, H', os, bare, un, hok', r', q⟩ := z
    have q : v = .bl true := q
    subst q
    obtain rfl : u = Value.bool true := r'
    exact ⟨rfl, old H' s' un hok', os, bare⟩
end K77

namespace K77
open PySem PySem.Spec PyProof.Rows L2 DL DN DX DG DZ LamX
theorem kit_self {K : PySem.W.Frag} : PySem.W.kitOne K (.ref aG) (.ref aG) = some true := if_pos (by rfl)
theorem ktup_of {K : PySem.W.Frag} {a : Addr} {is : List Int} {its : Array Value} {n : Nat} (h : K.lookup a = some { cls := .type "tuple", data := .seq its n }) (hs : its.size ≤ sizeLine) (v : Vals (is.map V.int) its.toList) : KTup K a is := fun H => .inr ⟨_, its, n, h, rfl, rfl, hs, v⟩
theorem exm_of {K : PySem.W.Frag} {S C : Addr} {v : Bool} (h1 : PySem.W.subIn K (.ref C) (.type "BaseException") = some true) (h2 : PySem.W.isClsIn K C = true) (h3 : PySem.W.typeIn K (.ref C) = some (.type "type")) (h4 : PySem.W.subIn K (.ref S) (.ref C) = some v) : PySem.W.exmOne K (.ref S) (.ref C) = some v := by
  have a1 : (PySem.W.subIn K (.ref C) (.type "BaseException") == some true) = true := by rw [h1]; rfl
  have h2 : (PySem.W.clsIn K C).isSome = true := h2
  have a2 : ((PySem.W.clsIn K C).isSome && PySem.W.typeIn K (.ref C) == some (.type "type")) = true := by rw [h2, h3]; rfl
  exact Eq.trans (if_pos a1) ((if_pos a2).trans h4)
theorem exm3_of {K : PySem.W.Frag} (b0 : PySem.W.subIn K (.ref aIG) (.type "BaseException") = some true) (c0 : PySem.W.isClsIn K aIG = true) (t0 : PySem.W.typeIn K (.ref aIG) = some (.type "type")) (b1 : PySem.W.subIn K (.ref aIN) (.type "BaseException") = some true) (c1 : PySem.W.isClsIn K aIN = true) (t1 : PySem.W.typeIn K (.ref aIN) = some (.type "type")) (b2 : PySem.W.subIn K (.ref aR) (.type "BaseException") = some true) (c2 : PySem.W.isClsIn K aR = true) (t2 : PySem.W.typeIn K (.ref aR) = some (.type "type")) (s00 : PySem.W.subIn K (.ref aIG) (.ref aIG) = some true) (s01 : PySem.W.subIn K (.ref aIG) (.ref aIN) = some false) (s02 : PySem.W.subIn K (.ref aIG) (.ref aR) = some false) (s10 : PySem.W.subIn K (.ref aIN) (.ref aIG) = some false) (s11 : PySem.W.subIn K (.ref aIN) (.ref aIN) = some true) (s12 : PySem.W.subIn K (.ref aIN) (.ref aR) = some false) (s20 : PySem.W.subIn K (.ref aR) (.ref aIG) = some false) (s21 : PySem.W.subIn K (.ref aR) (.ref aIN) = some false) (s22 : PySem.W.subIn K (.ref aR) (.ref aR) = some true) : Exm3 K := by
  refine ⟨fun a ha c hc => ?_⟩
  simp only [cls3, List.mem_cons, List.not_mem_nil, or_false] at ha hc
  rcases ha with rfl | rfl | rfl <;> rcases hc with rfl | rfl | rfl
  · exact (exm_of b0 c0 t0 s00).trans (congrArg some (by decide))
  · exact (exm_of b1 c1 t1 s01).trans (congrArg some (by decide))
  · exact (exm_of b2 c2 t2 s02).trans (congrArg some (by decide))
  · exact (exm_of b0 c0 t0 s10).trans (congrArg some (by decide))
  · exact (exm_of b1 c1 t1 s11).trans (congrArg some (by decide))
  · exact (exm_of b2 c2 t2 s12).trans (congrArg some (by decide))
  · exact (exm_of b0 c0 t0 s20).trans (congrArg some (by decide))
  · exact (exm_of b1 c1 t1 s21).trans (congrArg some (by decide))
  · exact (exm_of b2 c2 t2 s22).trans (congrArg some (by decide))
set_option maxHeartbeats 8000000 in
theorem all_own {P : Program} {w : World} {K : PySem.W.Frag} {h base : Heap} {mg : Str → Option Value} (X : K.In h) (Gh : h.Ns mainGlobals mg)
  {f_is_short : Addr} {od_is_short an_is_short : Option Addr} {sl_is_short : Array (Option Value)} {oc_is_short kV_is_short dc_is_short pm_is_short cd_is_short ct_is_short : Value}
  {f_is_integer : Addr} {od_is_integer an_is_integer : Option Addr} {sl_is_integer : Array (Option Value)} {oc_is_integer kV_is_integer dc_is_integer pm_is_integer cd_is_integer ct_is_integer : Value}
  {f_is_within : Addr} {od_is_within an_is_within : Option Addr} {sl_is_within : Array (Option Value)} {oc_is_within kV_is_within dc_is_within pm_is_within cd_is_within ct_is_within : Value}
  {f_joined : Addr} {od_joined an_joined : Option Addr} {sl_joined : Array (Option Value)} {oc_joined kV_joined dc_joined pm_joined cd_joined ct_joined : Value}
  {f_all_renamings : Addr} {od_all_renamings an_all_renamings : Option Addr} {sl_all_renamings : Array (Option Value)} {oc_all_renamings kV_all_renamings dc_all_renamings pm_all_renamings cd_all_renamings ct_all_renamings : Value}
  {f_power_of : Addr} {od_power_of an_power_of : Option Addr} {sl_power_of : Array (Option Value)} {oc_power_of kV_power_of dc_power_of pm_power_of cd_power_of ct_power_of : Value}
  {f_order_of : Addr} {od_order_of an_order_of : Option Addr} {sl_order_of : Array (Option Value)} {oc_order_of kV_order_of dc_order_of pm_order_of cd_order_of ct_order_of : Value}
  {f_closed_members : Addr} {od_closed_members an_closed_members : Option Addr} {sl_closed_members : Array (Option Value)} {oc_closed_members kV_closed_members dc_closed_members pm_closed_members cd_closed_members ct_closed_members : Value}
  {f_is_renaming : Addr} {od_is_renaming an_is_renaming : Option Addr} {sl_is_renaming : Array (Option Value)} {oc_is_renaming kV_is_renaming dc_is_renaming pm_is_renaming cd_is_renaming ct_is_renaming : Value}
  {f_are_moves : Addr} {od_are_moves an_are_moves : Option Addr} {sl_are_moves : Array (Option Value)} {oc_are_moves kV_are_moves dc_are_moves pm_are_moves cd_are_moves ct_are_moves : Value}
  {p_p_size : Addr} {re_p_size : List Value}
  {f_p_size : Addr} {od_p_size an_p_size : Option Addr} {sl_p_size : Array (Option Value)} {oc_p_size kV_p_size dc_p_size pm_p_size cd_p_size ct_p_size : Value}
  {p_p_moves : Addr} {re_p_moves : List Value}
  {f_p_moves : Addr} {od_p_moves an_p_moves : Option Addr} {sl_p_moves : Array (Option Value)} {oc_p_moves kV_p_moves dc_p_moves pm_p_moves cd_p_moves ct_p_moves : Value}
  {p_p_all_products : Addr} {re_p_all_products : List Value}
  {f_p_all_products : Addr} {od_p_all_products an_p_all_products : Option Addr} {sl_p_all_products : Array (Option Value)} {oc_p_all_products kV_p_all_products dc_p_all_products pm_p_all_products cd_p_all_products ct_p_all_products : Value}
  {p_p_all_inverses : Addr} {re_p_all_inverses : List Value}
  {f_p_all_inverses : Addr} {od_p_all_inverses an_p_all_inverses : Option Addr} {sl_p_all_inverses : Array (Option Value)} {oc_p_all_inverses kV_p_all_inverses dc_p_all_inverses pm_p_all_inverses cd_p_all_inverses ct_p_all_inverses : Value}
  {f_is_member : Addr} {od_is_member an_is_member : Option Addr} {sl_is_member : Array (Option Value)} {oc_is_member kV_is_member dc_is_member pm_is_member cd_is_member ct_is_member : Value}
  {f_need_group : Addr} {od_need_group an_need_group : Option Addr} {sl_need_group : Array (Option Value)} {oc_need_group kV_need_group dc_need_group pm_need_group cd_need_group ct_need_group : Value}
  {f_is_group_part : Addr} {od_is_group_part an_is_group_part : Option Addr} {sl_is_group_part : Array (Option Value)} {oc_is_group_part kV_is_group_part dc_is_group_part pm_is_group_part cd_is_group_part ct_is_group_part : Value}
  {f_need_part : Addr} {od_need_part an_need_part : Option Addr} {sl_need_part : Array (Option Value)} {oc_need_part kV_need_part dc_need_part pm_need_part cd_need_part ct_need_part : Value}
  {f_moved_members : Addr} {od_moved_members an_moved_members : Option Addr} {sl_moved_members : Array (Option Value)} {oc_moved_members kV_moved_members dc_moved_members pm_moved_members cd_moved_members ct_moved_members : Value}
  {f_need_prime : Addr} {od_need_prime an_need_prime : Option Addr} {sl_need_prime : Array (Option Value)} {oc_need_prime kV_need_prime dc_need_prime pm_need_prime cd_need_prime ct_need_prime : Value}
  {f_greater_part : Addr} {od_greater_part an_greater_part : Option Addr} {sl_greater_part : Array (Option Value)} {oc_greater_part kV_greater_part dc_greater_part pm_greater_part cd_greater_part ct_greater_part : Value}
  {f_prime_part : Addr} {od_prime_part an_prime_part : Option Addr} {sl_prime_part : Array (Option Value)} {oc_prime_part kV_prime_part dc_prime_part pm_prime_part cd_prime_part ct_prime_part : Value}
  {f_normalizer_of : Addr} {od_normalizer_of an_normalizer_of : Option Addr} {sl_normalizer_of : Array (Option Value)} {oc_normalizer_of kV_normalizer_of dc_normalizer_of pm_normalizer_of cd_normalizer_of ct_normalizer_of : Value}
  {f_centralizer_of : Addr} {od_centralizer_of an_centralizer_of : Option Addr} {sl_centralizer_of : Array (Option Value)} {oc_centralizer_of kV_centralizer_of dc_centralizer_of pm_centralizer_of cd_centralizer_of ct_centralizer_of : Value}
  {f_primes_of : Addr} {od_primes_of an_primes_of : Option Addr} {sl_primes_of : Array (Option Value)} {oc_primes_of kV_primes_of dc_primes_of pm_primes_of cd_primes_of ct_primes_of : Value}
  {f_greatest_power : Addr} {od_greatest_power an_greatest_power : Option Addr} {sl_greatest_power : Array (Option Value)} {oc_greatest_power kV_greatest_power dc_greatest_power pm_greatest_power cd_greatest_power ct_greatest_power : Value}
  {f_is_eight : Addr} {od_is_eight an_is_eight : Option Addr} {sl_is_eight : Array (Option Value)} {oc_is_eight kV_is_eight dc_is_eight pm_is_eight cd_is_eight ct_is_eight : Value}
  {f_entry_for : Addr} {od_entry_for an_entry_for : Option Addr} {sl_entry_for : Array (Option Value)} {oc_entry_for kV_entry_for dc_entry_for pm_entry_for cd_entry_for ct_entry_for : Value}
  {f_plain_paper : Addr} {od_plain_paper an_plain_paper : Option Addr} {sl_plain_paper : Array (Option Value)} {oc_plain_paper kV_plain_paper dc_plain_paper pm_plain_paper cd_plain_paper ct_plain_paper : Value}
  {f_turns_of_part : Addr} {od_turns_of_part an_turns_of_part : Option Addr} {sl_turns_of_part : Array (Option Value)} {oc_turns_of_part kV_turns_of_part dc_turns_of_part pm_turns_of_part cd_turns_of_part ct_turns_of_part : Value}
  {f_sizes_for : Addr} {od_sizes_for an_sizes_for : Option Addr} {sl_sizes_for : Array (Option Value)} {oc_sizes_for kV_sizes_for dc_sizes_for pm_sizes_for cd_sizes_for ct_sizes_for : Value}
  {f_chain_of : Addr} {od_chain_of an_chain_of : Option Addr} {sl_chain_of : Array (Option Value)} {oc_chain_of kV_chain_of dc_chain_of pm_chain_of cd_chain_of ct_chain_of : Value}
  {f_law_round_moves : Addr} {od_law_round_moves an_law_round_moves : Option Addr} {sl_law_round_moves : Array (Option Value)} {oc_law_round_moves kV_law_round_moves dc_law_round_moves pm_law_round_moves cd_law_round_moves ct_law_round_moves : Value}
  {f_law_ready_moves : Addr} {od_law_ready_moves an_law_ready_moves : Option Addr} {sl_law_ready_moves : Array (Option Value)} {oc_law_ready_moves kV_law_ready_moves dc_law_ready_moves pm_law_ready_moves cd_law_ready_moves ct_law_ready_moves : Value}
  {f_self_settle : Addr} {od_self_settle an_self_settle : Option Addr} {sl_self_settle : Array (Option Value)} {oc_self_settle kV_self_settle dc_self_settle pm_self_settle cd_self_settle ct_self_settle : Value}
  {f_self_init : Addr} {od_self_init an_self_init : Option Addr} {sl_self_init : Array (Option Value)} {oc_self_init kV_self_init dc_self_init pm_self_init cd_self_init ct_self_init : Value}
  {f_x_need_group : Addr} {od_x_need_group an_x_need_group : Option Addr} {sl_x_need_group : Array (Option Value)} {oc_x_need_group kV_x_need_group dc_x_need_group pm_x_need_group cd_x_need_group ct_x_need_group : Value}
  {f_bar_members : Addr} {od_bar_members an_bar_members : Option Addr} {sl_bar_members : Array (Option Value)} {oc_bar_members kV_bar_members dc_bar_members pm_bar_members cd_bar_members ct_bar_members : Value}
  {f_is_bar : Addr} {od_is_bar an_is_bar : Option Addr} {sl_is_bar : Array (Option Value)} {oc_is_bar kV_is_bar dc_is_bar pm_is_bar cd_is_bar ct_is_bar : Value}
  {f_again_paper : Addr} {od_again_paper an_again_paper : Option Addr} {sl_again_paper : Array (Option Value)} {oc_again_paper kV_again_paper dc_again_paper pm_again_paper cd_again_paper ct_again_paper : Value}
  {f_is_again_paper : Addr} {od_is_again_paper an_is_again_paper : Option Addr} {sl_is_again_paper : Array (Option Value)} {oc_is_again_paper kV_is_again_paper dc_is_again_paper pm_is_again_paper cd_is_again_paper ct_is_again_paper : Value}
  {f_made_commuting : Addr} {od_made_commuting an_made_commuting : Option Addr} {sl_made_commuting : Array (Option Value)} {oc_made_commuting kV_made_commuting dc_made_commuting pm_made_commuting cd_made_commuting ct_made_commuting : Value}
  {f_prime_turns : Addr} {od_prime_turns an_prime_turns : Option Addr} {sl_prime_turns : Array (Option Value)} {oc_prime_turns kV_prime_turns dc_prime_turns pm_prime_turns cd_prime_turns ct_prime_turns : Value}
  {f_need_paper : Addr} {od_need_paper an_need_paper : Option Addr} {sl_need_paper : Array (Option Value)} {oc_need_paper kV_need_paper dc_need_paper pm_need_paper cd_need_paper ct_need_paper : Value}
  {f_again_step : Addr} {od_again_step an_again_step : Option Addr} {sl_again_step : Array (Option Value)} {oc_again_step kV_again_step dc_again_step pm_again_step cd_again_step ct_again_step : Value}
  {f_list_again : Addr} {od_list_again an_list_again : Option Addr} {sl_list_again : Array (Option Value)} {oc_list_again kV_list_again dc_list_again pm_list_again cd_list_again ct_list_again : Value}
  {f_law_dice : Addr} {od_law_dice an_law_dice : Option Addr} {sl_law_dice : Array (Option Value)} {oc_law_dice kV_law_dice dc_law_dice pm_law_dice cd_law_dice ct_law_dice : Value}
  {f_law_roll : Addr} {od_law_roll an_law_roll : Option Addr} {sl_law_roll : Array (Option Value)} {oc_law_roll kV_law_roll dc_law_roll pm_law_roll cd_law_roll ct_law_roll : Value}
  {f_law_one_of : Addr} {od_law_one_of an_law_one_of : Option Addr} {sl_law_one_of : Array (Option Value)} {oc_law_one_of kV_law_one_of dc_law_one_of pm_law_one_of cd_law_one_of ct_law_one_of : Value}
  {f_law_met : Addr} {od_law_met an_law_met : Option Addr} {sl_law_met : Array (Option Value)} {oc_law_met kV_law_met dc_law_met pm_law_met cd_law_met ct_law_met : Value}
  {f_law_right : Addr} {od_law_right an_law_right : Option Addr} {sl_law_right : Array (Option Value)} {oc_law_right kV_law_right dc_law_right pm_law_right ct_law_right : Value} {cc_law_right : Addr}
  {f_law : Addr} {od_law an_law : Option Addr} {sl_law : Array (Option Value)} {oc_law kV_law dc_law pm_law ct_law : Value} {cc_law : Addr}
  {f_ini_Refused : Addr} {od_ini_Refused an_ini_Refused : Option Addr} {sl_ini_Refused : Array (Option Value)} {oc_ini_Refused kV_ini_Refused dc_ini_Refused pm_ini_Refused cd_ini_Refused ct_ini_Refused : Value}
  {f_ini_InvalidNumber : Addr} {od_ini_InvalidNumber an_ini_InvalidNumber : Option Addr} {sl_ini_InvalidNumber : Array (Option Value)} {oc_ini_InvalidNumber kV_ini_InvalidNumber dc_ini_InvalidNumber pm_ini_InvalidNumber cd_ini_InvalidNumber ct_ini_InvalidNumber : Value}
  {t_FIRST_TOO_LONG : Tok}
  {t_MAX_SIZE : Tok}
  {t_MAX_PLACES : Tok}
  {t_MOST_MOVES : Tok}
  (a_is_short : PySem.W.nsIn K mainGlobals "is_short" = some (some (.ref f_is_short)))
  (l_is_short : K.lookup f_is_short = some ⟨oc_is_short, od_is_short, .func (PySem.W.fnOf "is_short" "is_short" (defArgs sis_short) (defBody sis_short) (defScope sis_short) .none kV_is_short dc_is_short pm_is_short an_is_short cd_is_short ct_is_short), sl_is_short⟩)
  (c_is_short : PySem.W.codeIn K cd_is_short "is_short" = true)
  (k_is_short : PySem.W.keepIn K (.ref f_is_short) = true)
  (a_is_integer : PySem.W.nsIn K mainGlobals "is_integer" = some (some (.ref f_is_integer)))
  (l_is_integer : K.lookup f_is_integer = some ⟨oc_is_integer, od_is_integer, .func (PySem.W.fnOf "is_integer" "is_integer" (defArgs sis_integer) (defBody sis_integer) (defScope sis_integer) .none kV_is_integer dc_is_integer pm_is_integer an_is_integer cd_is_integer ct_is_integer), sl_is_integer⟩)
  (c_is_integer : PySem.W.codeIn K cd_is_integer "is_integer" = true)
  (k_is_integer : PySem.W.keepIn K (.ref f_is_integer) = true)
  (a_is_within : PySem.W.nsIn K mainGlobals "is_within" = some (some (.ref f_is_within)))
  (l_is_within : K.lookup f_is_within = some ⟨oc_is_within, od_is_within, .func (PySem.W.fnOf "is_within" "is_within" (defArgs sis_within) (defBody sis_within) (defScope sis_within) .none kV_is_within dc_is_within pm_is_within an_is_within cd_is_within ct_is_within), sl_is_within⟩)
  (c_is_within : PySem.W.codeIn K cd_is_within "is_within" = true)
  (k_is_within : PySem.W.keepIn K (.ref f_is_within) = true)
  (a_joined : PySem.W.nsIn K mainGlobals "joined" = some (some (.ref f_joined)))
  (l_joined : K.lookup f_joined = some ⟨oc_joined, od_joined, .func (PySem.W.fnOf "joined" "joined" (defArgs sjoined) (defBody sjoined) (defScope sjoined) .none kV_joined dc_joined pm_joined an_joined cd_joined ct_joined), sl_joined⟩)
  (c_joined : PySem.W.codeIn K cd_joined "joined" = true)
  (k_joined : PySem.W.keepIn K (.ref f_joined) = true)
  (a_all_renamings : PySem.W.nsIn K mainGlobals "all_renamings" = some (some (.ref f_all_renamings)))
  (l_all_renamings : K.lookup f_all_renamings = some ⟨oc_all_renamings, od_all_renamings, .func (PySem.W.fnOf "all_renamings" "all_renamings" (defArgs sall_renamings) (defBody sall_renamings) (defScope sall_renamings) .none kV_all_renamings dc_all_renamings pm_all_renamings an_all_renamings cd_all_renamings ct_all_renamings), sl_all_renamings⟩)
  (c_all_renamings : PySem.W.codeIn K cd_all_renamings "all_renamings" = true)
  (k_all_renamings : PySem.W.keepIn K (.ref f_all_renamings) = true)
  (a_power_of : PySem.W.nsIn K mainGlobals "power_of" = some (some (.ref f_power_of)))
  (l_power_of : K.lookup f_power_of = some ⟨oc_power_of, od_power_of, .func (PySem.W.fnOf "power_of" "power_of" (defArgs spower_of) (defBody spower_of) (defScope spower_of) .none kV_power_of dc_power_of pm_power_of an_power_of cd_power_of ct_power_of), sl_power_of⟩)
  (c_power_of : PySem.W.codeIn K cd_power_of "power_of" = true)
  (k_power_of : PySem.W.keepIn K (.ref f_power_of) = true)
  (a_order_of : PySem.W.nsIn K mainGlobals "order_of" = some (some (.ref f_order_of)))
  (l_order_of : K.lookup f_order_of = some ⟨oc_order_of, od_order_of, .func (PySem.W.fnOf "order_of" "order_of" (defArgs sorder_of) (defBody sorder_of) (defScope sorder_of) .none kV_order_of dc_order_of pm_order_of an_order_of cd_order_of ct_order_of), sl_order_of⟩)
  (c_order_of : PySem.W.codeIn K cd_order_of "order_of" = true)
  (k_order_of : PySem.W.keepIn K (.ref f_order_of) = true)
  (a_closed_members : PySem.W.nsIn K mainGlobals "closed_members" = some (some (.ref f_closed_members)))
  (l_closed_members : K.lookup f_closed_members = some ⟨oc_closed_members, od_closed_members, .func (PySem.W.fnOf "closed_members" "closed_members" (defArgs sclosed_members) (defBody sclosed_members) (defScope sclosed_members) .none kV_closed_members dc_closed_members pm_closed_members an_closed_members cd_closed_members ct_closed_members), sl_closed_members⟩)
  (c_closed_members : PySem.W.codeIn K cd_closed_members "closed_members" = true)
  (k_closed_members : PySem.W.keepIn K (.ref f_closed_members) = true)
  (a_is_renaming : PySem.W.nsIn K mainGlobals "is_renaming" = some (some (.ref f_is_renaming)))
  (l_is_renaming : K.lookup f_is_renaming = some ⟨oc_is_renaming, od_is_renaming, .func (PySem.W.fnOf "is_renaming" "is_renaming" (defArgs sis_renaming) (defBody sis_renaming) (defScope sis_renaming) .none kV_is_renaming dc_is_renaming pm_is_renaming an_is_renaming cd_is_renaming ct_is_renaming), sl_is_renaming⟩)
  (c_is_renaming : PySem.W.codeIn K cd_is_renaming "is_renaming" = true)
  (k_is_renaming : PySem.W.keepIn K (.ref f_is_renaming) = true)
  (a_are_moves : PySem.W.nsIn K mainGlobals "are_moves" = some (some (.ref f_are_moves)))
  (l_are_moves : K.lookup f_are_moves = some ⟨oc_are_moves, od_are_moves, .func (PySem.W.fnOf "are_moves" "are_moves" (defArgs sare_moves) (defBody sare_moves) (defScope sare_moves) .none kV_are_moves dc_are_moves pm_are_moves an_are_moves cd_are_moves ct_are_moves), sl_are_moves⟩)
  (c_are_moves : PySem.W.codeIn K cd_are_moves "are_moves" = true)
  (k_are_moves : PySem.W.keepIn K (.ref f_are_moves) = true)
  (a_p_size : PySem.W.findIn K (.ref aG) "size" = some (some (.ref p_p_size)))
  (g_p_size : PySem.W.specialIn K (.ref p_p_size) "__get__" = some (some (.builtin "property.__get__")))
  (t_p_size : PySem.W.takesIn K (.ref p_p_size) = some true)
  (e_p_size : PySem.W.recIn K p_p_size "property" = some (.ref f_p_size :: re_p_size))
  (l_p_size : K.lookup f_p_size = some ⟨oc_p_size, od_p_size, .func (PySem.W.fnOf "size" "Group.size" (defArgs sp_size) (defBody sp_size) (defScope sp_size) .none kV_p_size dc_p_size pm_p_size an_p_size cd_p_size ct_p_size), sl_p_size⟩)
  (c_p_size : PySem.W.codeIn K cd_p_size "Group.size" = true)
  (k_p_size : PySem.W.keepIn K (.ref f_p_size) = true)
  (a_p_moves : PySem.W.findIn K (.ref aG) "moves" = some (some (.ref p_p_moves)))
  (g_p_moves : PySem.W.specialIn K (.ref p_p_moves) "__get__" = some (some (.builtin "property.__get__")))
  (t_p_moves : PySem.W.takesIn K (.ref p_p_moves) = some true)
  (e_p_moves : PySem.W.recIn K p_p_moves "property" = some (.ref f_p_moves :: re_p_moves))
  (l_p_moves : K.lookup f_p_moves = some ⟨oc_p_moves, od_p_moves, .func (PySem.W.fnOf "moves" "Group.moves" (defArgs sp_moves) (defBody sp_moves) (defScope sp_moves) .none kV_p_moves dc_p_moves pm_p_moves an_p_moves cd_p_moves ct_p_moves), sl_p_moves⟩)
  (c_p_moves : PySem.W.codeIn K cd_p_moves "Group.moves" = true)
  (k_p_moves : PySem.W.keepIn K (.ref f_p_moves) = true)
  (a_p_all_products : PySem.W.findIn K (.ref aG) "all_products" = some (some (.ref p_p_all_products)))
  (g_p_all_products : PySem.W.specialIn K (.ref p_p_all_products) "__get__" = some (some (.builtin "property.__get__")))
  (t_p_all_products : PySem.W.takesIn K (.ref p_p_all_products) = some true)
  (e_p_all_products : PySem.W.recIn K p_p_all_products "property" = some (.ref f_p_all_products :: re_p_all_products))
  (l_p_all_products : K.lookup f_p_all_products = some ⟨oc_p_all_products, od_p_all_products, .func (PySem.W.fnOf "all_products" "Group.all_products" (defArgs sp_all_products) (defBody sp_all_products) (defScope sp_all_products) .none kV_p_all_products dc_p_all_products pm_p_all_products an_p_all_products cd_p_all_products ct_p_all_products), sl_p_all_products⟩)
  (c_p_all_products : PySem.W.codeIn K cd_p_all_products "Group.all_products" = true)
  (k_p_all_products : PySem.W.keepIn K (.ref f_p_all_products) = true)
  (a_p_all_inverses : PySem.W.findIn K (.ref aG) "all_inverses" = some (some (.ref p_p_all_inverses)))
  (g_p_all_inverses : PySem.W.specialIn K (.ref p_p_all_inverses) "__get__" = some (some (.builtin "property.__get__")))
  (t_p_all_inverses : PySem.W.takesIn K (.ref p_p_all_inverses) = some true)
  (e_p_all_inverses : PySem.W.recIn K p_p_all_inverses "property" = some (.ref f_p_all_inverses :: re_p_all_inverses))
  (l_p_all_inverses : K.lookup f_p_all_inverses = some ⟨oc_p_all_inverses, od_p_all_inverses, .func (PySem.W.fnOf "all_inverses" "Group.all_inverses" (defArgs sp_all_inverses) (defBody sp_all_inverses) (defScope sp_all_inverses) .none kV_p_all_inverses dc_p_all_inverses pm_p_all_inverses an_p_all_inverses cd_p_all_inverses ct_p_all_inverses), sl_p_all_inverses⟩)
  (c_p_all_inverses : PySem.W.codeIn K cd_p_all_inverses "Group.all_inverses" = true)
  (k_p_all_inverses : PySem.W.keepIn K (.ref f_p_all_inverses) = true)
  (a_is_member : PySem.W.nsIn K mainGlobals "is_member" = some (some (.ref f_is_member)))
  (l_is_member : K.lookup f_is_member = some ⟨oc_is_member, od_is_member, .func (PySem.W.fnOf "is_member" "is_member" (defArgs sis_member) (defBody sis_member) (defScope sis_member) .none kV_is_member dc_is_member pm_is_member an_is_member cd_is_member ct_is_member), sl_is_member⟩)
  (c_is_member : PySem.W.codeIn K cd_is_member "is_member" = true)
  (k_is_member : PySem.W.keepIn K (.ref f_is_member) = true)
  (a_need_group : PySem.W.nsIn K mainGlobals "need_group" = some (some (.ref f_need_group)))
  (l_need_group : K.lookup f_need_group = some ⟨oc_need_group, od_need_group, .func (PySem.W.fnOf "need_group" "need_group" (defArgs sneed_group) (defBody sneed_group) (defScope sneed_group) .none kV_need_group dc_need_group pm_need_group an_need_group cd_need_group ct_need_group), sl_need_group⟩)
  (c_need_group : PySem.W.codeIn K cd_need_group "need_group" = true)
  (k_need_group : PySem.W.keepIn K (.ref f_need_group) = true)
  (a_is_group_part : PySem.W.nsIn K mainGlobals "is_group_part" = some (some (.ref f_is_group_part)))
  (l_is_group_part : K.lookup f_is_group_part = some ⟨oc_is_group_part, od_is_group_part, .func (PySem.W.fnOf "is_group_part" "is_group_part" (defArgs sis_group_part) (defBody sis_group_part) (defScope sis_group_part) .none kV_is_group_part dc_is_group_part pm_is_group_part an_is_group_part cd_is_group_part ct_is_group_part), sl_is_group_part⟩)
  (c_is_group_part : PySem.W.codeIn K cd_is_group_part "is_group_part" = true)
  (k_is_group_part : PySem.W.keepIn K (.ref f_is_group_part) = true)
  (a_need_part : PySem.W.nsIn K mainGlobals "need_part" = some (some (.ref f_need_part)))
  (l_need_part : K.lookup f_need_part = some ⟨oc_need_part, od_need_part, .func (PySem.W.fnOf "need_part" "need_part" (defArgs sneed_part) (defBody sneed_part) (defScope sneed_part) .none kV_need_part dc_need_part pm_need_part an_need_part cd_need_part ct_need_part), sl_need_part⟩)
  (c_need_part : PySem.W.codeIn K cd_need_part "need_part" = true)
  (k_need_part : PySem.W.keepIn K (.ref f_need_part) = true)
  (a_moved_members : PySem.W.nsIn K mainGlobals "moved_members" = some (some (.ref f_moved_members)))
  (l_moved_members : K.lookup f_moved_members = some ⟨oc_moved_members, od_moved_members, .func (PySem.W.fnOf "moved_members" "moved_members" (defArgs smoved_members) (defBody smoved_members) (defScope smoved_members) .none kV_moved_members dc_moved_members pm_moved_members an_moved_members cd_moved_members ct_moved_members), sl_moved_members⟩)
  (c_moved_members : PySem.W.codeIn K cd_moved_members "moved_members" = true)
  (k_moved_members : PySem.W.keepIn K (.ref f_moved_members) = true)
  (a_need_prime : PySem.W.nsIn K mainGlobals "need_prime" = some (some (.ref f_need_prime)))
  (l_need_prime : K.lookup f_need_prime = some ⟨oc_need_prime, od_need_prime, .func (PySem.W.fnOf "need_prime" "need_prime" (defArgs sneed_prime) (defBody sneed_prime) (defScope sneed_prime) .none kV_need_prime dc_need_prime pm_need_prime an_need_prime cd_need_prime ct_need_prime), sl_need_prime⟩)
  (c_need_prime : PySem.W.codeIn K cd_need_prime "need_prime" = true)
  (k_need_prime : PySem.W.keepIn K (.ref f_need_prime) = true)
  (a_greater_part : PySem.W.nsIn K mainGlobals "greater_part" = some (some (.ref f_greater_part)))
  (l_greater_part : K.lookup f_greater_part = some ⟨oc_greater_part, od_greater_part, .func (PySem.W.fnOf "greater_part" "greater_part" (defArgs sgreater_part) (defBody sgreater_part) (defScope sgreater_part) .none kV_greater_part dc_greater_part pm_greater_part an_greater_part cd_greater_part ct_greater_part), sl_greater_part⟩)
  (c_greater_part : PySem.W.codeIn K cd_greater_part "greater_part" = true)
  (k_greater_part : PySem.W.keepIn K (.ref f_greater_part) = true)
  (a_prime_part : PySem.W.nsIn K mainGlobals "prime_part" = some (some (.ref f_prime_part)))
  (l_prime_part : K.lookup f_prime_part = some ⟨oc_prime_part, od_prime_part, .func (PySem.W.fnOf "prime_part" "prime_part" (defArgs sprime_part) (defBody sprime_part) (defScope sprime_part) .none kV_prime_part dc_prime_part pm_prime_part an_prime_part cd_prime_part ct_prime_part), sl_prime_part⟩)
  (c_prime_part : PySem.W.codeIn K cd_prime_part "prime_part" = true)
  (k_prime_part : PySem.W.keepIn K (.ref f_prime_part) = true)
  (a_normalizer_of : PySem.W.nsIn K mainGlobals "normalizer_of" = some (some (.ref f_normalizer_of)))
  (l_normalizer_of : K.lookup f_normalizer_of = some ⟨oc_normalizer_of, od_normalizer_of, .func (PySem.W.fnOf "normalizer_of" "normalizer_of" (defArgs snormalizer_of) (defBody snormalizer_of) (defScope snormalizer_of) .none kV_normalizer_of dc_normalizer_of pm_normalizer_of an_normalizer_of cd_normalizer_of ct_normalizer_of), sl_normalizer_of⟩)
  (c_normalizer_of : PySem.W.codeIn K cd_normalizer_of "normalizer_of" = true)
  (k_normalizer_of : PySem.W.keepIn K (.ref f_normalizer_of) = true)
  (a_centralizer_of : PySem.W.nsIn K mainGlobals "centralizer_of" = some (some (.ref f_centralizer_of)))
  (l_centralizer_of : K.lookup f_centralizer_of = some ⟨oc_centralizer_of, od_centralizer_of, .func (PySem.W.fnOf "centralizer_of" "centralizer_of" (defArgs scentralizer_of) (defBody scentralizer_of) (defScope scentralizer_of) .none kV_centralizer_of dc_centralizer_of pm_centralizer_of an_centralizer_of cd_centralizer_of ct_centralizer_of), sl_centralizer_of⟩)
  (c_centralizer_of : PySem.W.codeIn K cd_centralizer_of "centralizer_of" = true)
  (k_centralizer_of : PySem.W.keepIn K (.ref f_centralizer_of) = true)
  (a_primes_of : PySem.W.nsIn K mainGlobals "primes_of" = some (some (.ref f_primes_of)))
  (l_primes_of : K.lookup f_primes_of = some ⟨oc_primes_of, od_primes_of, .func (PySem.W.fnOf "primes_of" "primes_of" (defArgs sprimes_of) (defBody sprimes_of) (defScope sprimes_of) .none kV_primes_of dc_primes_of pm_primes_of an_primes_of cd_primes_of ct_primes_of), sl_primes_of⟩)
  (c_primes_of : PySem.W.codeIn K cd_primes_of "primes_of" = true)
  (k_primes_of : PySem.W.keepIn K (.ref f_primes_of) = true)
  (a_greatest_power : PySem.W.nsIn K mainGlobals "greatest_power" = some (some (.ref f_greatest_power)))
  (l_greatest_power : K.lookup f_greatest_power = some ⟨oc_greatest_power, od_greatest_power, .func (PySem.W.fnOf "greatest_power" "greatest_power" (defArgs sgreatest_power) (defBody sgreatest_power) (defScope sgreatest_power) .none kV_greatest_power dc_greatest_power pm_greatest_power an_greatest_power cd_greatest_power ct_greatest_power), sl_greatest_power⟩)
  (c_greatest_power : PySem.W.codeIn K cd_greatest_power "greatest_power" = true)
  (k_greatest_power : PySem.W.keepIn K (.ref f_greatest_power) = true)
  (a_is_eight : PySem.W.nsIn K mainGlobals "is_eight" = some (some (.ref f_is_eight)))
  (l_is_eight : K.lookup f_is_eight = some ⟨oc_is_eight, od_is_eight, .func (PySem.W.fnOf "is_eight" "is_eight" (defArgs sis_eight) (defBody sis_eight) (defScope sis_eight) .none kV_is_eight dc_is_eight pm_is_eight an_is_eight cd_is_eight ct_is_eight), sl_is_eight⟩)
  (c_is_eight : PySem.W.codeIn K cd_is_eight "is_eight" = true)
  (k_is_eight : PySem.W.keepIn K (.ref f_is_eight) = true)
  (a_entry_for : PySem.W.nsIn K mainGlobals "entry_for" = some (some (.ref f_entry_for)))
  (l_entry_for : K.lookup f_entry_for = some ⟨oc_entry_for, od_entry_for, .func (PySem.W.fnOf "entry_for" "entry_for" (defArgs sentry_for) (defBody sentry_for) (defScope sentry_for) .none kV_entry_for dc_entry_for pm_entry_for an_entry_for cd_entry_for ct_entry_for), sl_entry_for⟩)
  (c_entry_for : PySem.W.codeIn K cd_entry_for "entry_for" = true)
  (k_entry_for : PySem.W.keepIn K (.ref f_entry_for) = true)
  (a_plain_paper : PySem.W.nsIn K mainGlobals "plain_paper" = some (some (.ref f_plain_paper)))
  (l_plain_paper : K.lookup f_plain_paper = some ⟨oc_plain_paper, od_plain_paper, .func (PySem.W.fnOf "plain_paper" "plain_paper" (defArgs splain_paper) (defBody splain_paper) (defScope splain_paper) .none kV_plain_paper dc_plain_paper pm_plain_paper an_plain_paper cd_plain_paper ct_plain_paper), sl_plain_paper⟩)
  (c_plain_paper : PySem.W.codeIn K cd_plain_paper "plain_paper" = true)
  (k_plain_paper : PySem.W.keepIn K (.ref f_plain_paper) = true)
  (a_turns_of_part : PySem.W.nsIn K mainGlobals "turns_of_part" = some (some (.ref f_turns_of_part)))
  (l_turns_of_part : K.lookup f_turns_of_part = some ⟨oc_turns_of_part, od_turns_of_part, .func (PySem.W.fnOf "turns_of_part" "turns_of_part" (defArgs sturns_of_part) (defBody sturns_of_part) (defScope sturns_of_part) .none kV_turns_of_part dc_turns_of_part pm_turns_of_part an_turns_of_part cd_turns_of_part ct_turns_of_part), sl_turns_of_part⟩)
  (c_turns_of_part : PySem.W.codeIn K cd_turns_of_part "turns_of_part" = true)
  (k_turns_of_part : PySem.W.keepIn K (.ref f_turns_of_part) = true)
  (a_sizes_for : PySem.W.nsIn K mainGlobals "sizes_for" = some (some (.ref f_sizes_for)))
  (l_sizes_for : K.lookup f_sizes_for = some ⟨oc_sizes_for, od_sizes_for, .func (PySem.W.fnOf "sizes_for" "sizes_for" (defArgs ssizes_for) (defBody ssizes_for) (defScope ssizes_for) .none kV_sizes_for dc_sizes_for pm_sizes_for an_sizes_for cd_sizes_for ct_sizes_for), sl_sizes_for⟩)
  (c_sizes_for : PySem.W.codeIn K cd_sizes_for "sizes_for" = true)
  (k_sizes_for : PySem.W.keepIn K (.ref f_sizes_for) = true)
  (a_chain_of : PySem.W.nsIn K mainGlobals "chain_of" = some (some (.ref f_chain_of)))
  (l_chain_of : K.lookup f_chain_of = some ⟨oc_chain_of, od_chain_of, .func (PySem.W.fnOf "chain_of" "chain_of" (defArgs schain_of) (defBody schain_of) (defScope schain_of) .none kV_chain_of dc_chain_of pm_chain_of an_chain_of cd_chain_of ct_chain_of), sl_chain_of⟩)
  (c_chain_of : PySem.W.codeIn K cd_chain_of "chain_of" = true)
  (k_chain_of : PySem.W.keepIn K (.ref f_chain_of) = true)
  (a_law_round_moves : PySem.W.nsIn K mainGlobals "_law_round_moves" = some (some (.ref f_law_round_moves)))
  (l_law_round_moves : K.lookup f_law_round_moves = some ⟨oc_law_round_moves, od_law_round_moves, .func (PySem.W.fnOf "_law_round_moves" "_law_round_moves" (defArgs slaw_round_moves) (defBody slaw_round_moves) (defScope slaw_round_moves) .none kV_law_round_moves dc_law_round_moves pm_law_round_moves an_law_round_moves cd_law_round_moves ct_law_round_moves), sl_law_round_moves⟩)
  (c_law_round_moves : PySem.W.codeIn K cd_law_round_moves "_law_round_moves" = true)
  (k_law_round_moves : PySem.W.keepIn K (.ref f_law_round_moves) = true)
  (a_law_ready_moves : PySem.W.nsIn K mainGlobals "_law_ready_moves" = some (some (.ref f_law_ready_moves)))
  (l_law_ready_moves : K.lookup f_law_ready_moves = some ⟨oc_law_ready_moves, od_law_ready_moves, .func (PySem.W.fnOf "_law_ready_moves" "_law_ready_moves" (defArgs slaw_ready_moves) (defBody slaw_ready_moves) (defScope slaw_ready_moves) .none kV_law_ready_moves dc_law_ready_moves pm_law_ready_moves an_law_ready_moves cd_law_ready_moves ct_law_ready_moves), sl_law_ready_moves⟩)
  (c_law_ready_moves : PySem.W.codeIn K cd_law_ready_moves "_law_ready_moves" = true)
  (k_law_ready_moves : PySem.W.keepIn K (.ref f_law_ready_moves) = true)
  (a_self_settle : PySem.W.findIn K (.ref aG) "_settle" = some (some (.ref f_self_settle)))
  (i_self_settle : PySem.W.isFn K (.ref f_self_settle) = true)
  (l_self_settle : K.lookup f_self_settle = some ⟨oc_self_settle, od_self_settle, .func (PySem.W.fnOf "_settle" "Group._settle" (defArgs sself_settle) (defBody sself_settle) (defScope sself_settle) .none kV_self_settle dc_self_settle pm_self_settle an_self_settle cd_self_settle ct_self_settle), sl_self_settle⟩)
  (c_self_settle : PySem.W.codeIn K cd_self_settle "Group._settle" = true)
  (k_self_settle : PySem.W.keepIn K (.ref f_self_settle) = true)
  (a_self_init : PySem.W.findIn K (.ref aG) "__init__" = some (some (.ref f_self_init)))
  (i_self_init : PySem.W.isFn K (.ref f_self_init) = true)
  (l_self_init : K.lookup f_self_init = some ⟨oc_self_init, od_self_init, .func (PySem.W.fnOf "__init__" "Group.__init__" (defArgs sself_init) (defBody sself_init) (defScope sself_init) .none kV_self_init dc_self_init pm_self_init an_self_init cd_self_init ct_self_init), sl_self_init⟩)
  (c_self_init : PySem.W.codeIn K cd_self_init "Group.__init__" = true)
  (k_self_init : PySem.W.keepIn K (.ref f_self_init) = true)
  (a_x_need_group : PySem.W.nsIn K mainGlobals "need_group" = some (some (.ref f_x_need_group)))
  (l_x_need_group : K.lookup f_x_need_group = some ⟨oc_x_need_group, od_x_need_group, .func (PySem.W.fnOf "need_group" "need_group" (defArgs sx_need_group) (defBody sx_need_group) (defScope sx_need_group) .none kV_x_need_group dc_x_need_group pm_x_need_group an_x_need_group cd_x_need_group ct_x_need_group), sl_x_need_group⟩)
  (c_x_need_group : PySem.W.codeIn K cd_x_need_group "need_group" = true)
  (k_x_need_group : PySem.W.keepIn K (.ref f_x_need_group) = true)
  (a_bar_members : PySem.W.nsIn K mainGlobals "bar_members" = some (some (.ref f_bar_members)))
  (l_bar_members : K.lookup f_bar_members = some ⟨oc_bar_members, od_bar_members, .func (PySem.W.fnOf "bar_members" "bar_members" (defArgs sbar_members) (defBody sbar_members) (defScope sbar_members) .none kV_bar_members dc_bar_members pm_bar_members an_bar_members cd_bar_members ct_bar_members), sl_bar_members⟩)
  (c_bar_members : PySem.W.codeIn K cd_bar_members "bar_members" = true)
  (k_bar_members : PySem.W.keepIn K (.ref f_bar_members) = true)
  (a_is_bar : PySem.W.nsIn K mainGlobals "is_bar" = some (some (.ref f_is_bar)))
  (l_is_bar : K.lookup f_is_bar = some ⟨oc_is_bar, od_is_bar, .func (PySem.W.fnOf "is_bar" "is_bar" (defArgs sis_bar) (defBody sis_bar) (defScope sis_bar) .none kV_is_bar dc_is_bar pm_is_bar an_is_bar cd_is_bar ct_is_bar), sl_is_bar⟩)
  (c_is_bar : PySem.W.codeIn K cd_is_bar "is_bar" = true)
  (k_is_bar : PySem.W.keepIn K (.ref f_is_bar) = true)
  (a_again_paper : PySem.W.nsIn K mainGlobals "again_paper" = some (some (.ref f_again_paper)))
  (l_again_paper : K.lookup f_again_paper = some ⟨oc_again_paper, od_again_paper, .func (PySem.W.fnOf "again_paper" "again_paper" (defArgs sagain_paper) (defBody sagain_paper) (defScope sagain_paper) .none kV_again_paper dc_again_paper pm_again_paper an_again_paper cd_again_paper ct_again_paper), sl_again_paper⟩)
  (c_again_paper : PySem.W.codeIn K cd_again_paper "again_paper" = true)
  (k_again_paper : PySem.W.keepIn K (.ref f_again_paper) = true)
  (a_is_again_paper : PySem.W.nsIn K mainGlobals "is_again_paper" = some (some (.ref f_is_again_paper)))
  (l_is_again_paper : K.lookup f_is_again_paper = some ⟨oc_is_again_paper, od_is_again_paper, .func (PySem.W.fnOf "is_again_paper" "is_again_paper" (defArgs sis_again_paper) (defBody sis_again_paper) (defScope sis_again_paper) .none kV_is_again_paper dc_is_again_paper pm_is_again_paper an_is_again_paper cd_is_again_paper ct_is_again_paper), sl_is_again_paper⟩)
  (c_is_again_paper : PySem.W.codeIn K cd_is_again_paper "is_again_paper" = true)
  (k_is_again_paper : PySem.W.keepIn K (.ref f_is_again_paper) = true)
  (a_made_commuting : PySem.W.nsIn K mainGlobals "made_commuting" = some (some (.ref f_made_commuting)))
  (l_made_commuting : K.lookup f_made_commuting = some ⟨oc_made_commuting, od_made_commuting, .func (PySem.W.fnOf "made_commuting" "made_commuting" (defArgs smade_commuting) (defBody smade_commuting) (defScope smade_commuting) .none kV_made_commuting dc_made_commuting pm_made_commuting an_made_commuting cd_made_commuting ct_made_commuting), sl_made_commuting⟩)
  (c_made_commuting : PySem.W.codeIn K cd_made_commuting "made_commuting" = true)
  (k_made_commuting : PySem.W.keepIn K (.ref f_made_commuting) = true)
  (a_prime_turns : PySem.W.nsIn K mainGlobals "prime_turns" = some (some (.ref f_prime_turns)))
  (l_prime_turns : K.lookup f_prime_turns = some ⟨oc_prime_turns, od_prime_turns, .func (PySem.W.fnOf "prime_turns" "prime_turns" (defArgs sprime_turns) (defBody sprime_turns) (defScope sprime_turns) .none kV_prime_turns dc_prime_turns pm_prime_turns an_prime_turns cd_prime_turns ct_prime_turns), sl_prime_turns⟩)
  (c_prime_turns : PySem.W.codeIn K cd_prime_turns "prime_turns" = true)
  (k_prime_turns : PySem.W.keepIn K (.ref f_prime_turns) = true)
  (a_need_paper : PySem.W.nsIn K mainGlobals "need_paper" = some (some (.ref f_need_paper)))
  (l_need_paper : K.lookup f_need_paper = some ⟨oc_need_paper, od_need_paper, .func (PySem.W.fnOf "need_paper" "need_paper" (defArgs sneed_paper) (defBody sneed_paper) (defScope sneed_paper) .none kV_need_paper dc_need_paper pm_need_paper an_need_paper cd_need_paper ct_need_paper), sl_need_paper⟩)
  (c_need_paper : PySem.W.codeIn K cd_need_paper "need_paper" = true)
  (k_need_paper : PySem.W.keepIn K (.ref f_need_paper) = true)
  (a_again_step : PySem.W.nsIn K mainGlobals "again_step" = some (some (.ref f_again_step)))
  (l_again_step : K.lookup f_again_step = some ⟨oc_again_step, od_again_step, .func (PySem.W.fnOf "again_step" "again_step" (defArgs sagain_step) (defBody sagain_step) (defScope sagain_step) .none kV_again_step dc_again_step pm_again_step an_again_step cd_again_step ct_again_step), sl_again_step⟩)
  (c_again_step : PySem.W.codeIn K cd_again_step "again_step" = true)
  (k_again_step : PySem.W.keepIn K (.ref f_again_step) = true)
  (a_list_again : PySem.W.nsIn K mainGlobals "list_again" = some (some (.ref f_list_again)))
  (l_list_again : K.lookup f_list_again = some ⟨oc_list_again, od_list_again, .func (PySem.W.fnOf "list_again" "list_again" (defArgs slist_again) (defBody slist_again) (defScope slist_again) .none kV_list_again dc_list_again pm_list_again an_list_again cd_list_again ct_list_again), sl_list_again⟩)
  (c_list_again : PySem.W.codeIn K cd_list_again "list_again" = true)
  (k_list_again : PySem.W.keepIn K (.ref f_list_again) = true)
  (a_law_dice : PySem.W.nsIn K mainGlobals "_law_dice" = some (some (.ref f_law_dice)))
  (l_law_dice : K.lookup f_law_dice = some ⟨oc_law_dice, od_law_dice, .func (PySem.W.fnOf "_law_dice" "_law_dice" (defArgs slaw_dice) (defBody slaw_dice) (defScope slaw_dice) .none kV_law_dice dc_law_dice pm_law_dice an_law_dice cd_law_dice ct_law_dice), sl_law_dice⟩)
  (c_law_dice : PySem.W.codeIn K cd_law_dice "_law_dice" = true)
  (k_law_dice : PySem.W.keepIn K (.ref f_law_dice) = true)
  (a_law_roll : PySem.W.nsIn K mainGlobals "_law_roll" = some (some (.ref f_law_roll)))
  (l_law_roll : K.lookup f_law_roll = some ⟨oc_law_roll, od_law_roll, .func (PySem.W.fnOf "_law_roll" "_law_roll" (defArgs slaw_roll) (defBody slaw_roll) (defScope slaw_roll) .none kV_law_roll dc_law_roll pm_law_roll an_law_roll cd_law_roll ct_law_roll), sl_law_roll⟩)
  (c_law_roll : PySem.W.codeIn K cd_law_roll "_law_roll" = true)
  (k_law_roll : PySem.W.keepIn K (.ref f_law_roll) = true)
  (a_law_one_of : PySem.W.nsIn K mainGlobals "_law_one_of" = some (some (.ref f_law_one_of)))
  (l_law_one_of : K.lookup f_law_one_of = some ⟨oc_law_one_of, od_law_one_of, .func (PySem.W.fnOf "_law_one_of" "_law_one_of" (defArgs slaw_one_of) (defBody slaw_one_of) (defScope slaw_one_of) .none kV_law_one_of dc_law_one_of pm_law_one_of an_law_one_of cd_law_one_of ct_law_one_of), sl_law_one_of⟩)
  (c_law_one_of : PySem.W.codeIn K cd_law_one_of "_law_one_of" = true)
  (k_law_one_of : PySem.W.keepIn K (.ref f_law_one_of) = true)
  (a_law_met : PySem.W.nsIn K mainGlobals "_law_met" = some (some (.ref f_law_met)))
  (l_law_met : K.lookup f_law_met = some ⟨oc_law_met, od_law_met, .func (PySem.W.fnOf "_law_met" "_law_met" (defArgs slaw_met) (defBody slaw_met) (defScope slaw_met) .none kV_law_met dc_law_met pm_law_met an_law_met cd_law_met ct_law_met), sl_law_met⟩)
  (c_law_met : PySem.W.codeIn K cd_law_met "_law_met" = true)
  (k_law_met : PySem.W.keepIn K (.ref f_law_met) = true)
  (a_law_right : PySem.W.nsIn K mainGlobals "_law_right" = some (some (.ref f_law_right)))
  (l_law_right : K.lookup f_law_right = some ⟨oc_law_right, od_law_right, .func (PySem.W.fnOf "_law_right" "_law_right" (defArgs slaw_right) (defBody slaw_right) (defScope slaw_right) .none kV_law_right dc_law_right pm_law_right an_law_right (.ref cc_law_right) ct_law_right), sl_law_right⟩)
  (c_law_right : PySem.W.codeIn K (.ref cc_law_right) "_law_right" = true)
  (k_law_right : PySem.W.keepIn K (.ref f_law_right) = true)
  (a_law : PySem.W.nsIn K mainGlobals "law" = some (some (.ref f_law)))
  (l_law : K.lookup f_law = some ⟨oc_law, od_law, .func (PySem.W.fnOf "law" "law" (defArgs slaw) (defBody slaw) (defScope slaw) .none kV_law dc_law pm_law an_law (.ref cc_law) ct_law), sl_law⟩)
  (c_law : PySem.W.codeIn K (.ref cc_law) "law" = true)
  (k_law : PySem.W.keepIn K (.ref f_law) = true)
  (xa_Refused : PySem.W.nsIn K mainGlobals "Refused" = some (some (.ref aR)))
  (xi_Refused : PySem.W.excInitIn K aR [.type "ArithmeticError", .type "Exception", .type "BaseException", .type "object"] "ArithmeticError.__new__" = true)
  (xo_Refused : PySem.W.excOver K aR [.type "ArithmeticError", .type "Exception", .type "BaseException", .type "object"] = true)
  (xh_Refused : PySem.W.hasDictIn K aR = true)
  (xs_Refused : PySem.W.findIn K (.ref aR) "__setattr__" = some (some (.builtin "object.__setattr__")))
  (xb_Refused : PySem.W.subIn K (.ref aR) (.type "BaseException") = some true)
  (xt_Refused : PySem.W.typeIn K (.ref aR) = some (.type "type"))
  (xk_Refused : PySem.W.keepIn K (.ref aR) = true)
  (xg_Refused : PySem.W.findIn K (.ref aR) "__getattribute__" = some (some (.builtin "BaseException.__getattribute__")))
  (xe_Refused : PySem.W.findIn K (.ref aR) "__getattr__" = some none)
  (xn_Refused : PySem.W.findIn K (.ref aR) "reason" = some none)
  (xf_Refused : PySem.W.findIn K (.ref aR) "__init__" = some (some (.ref f_ini_Refused)))
  (xy_Refused : PySem.W.typeIn K (.ref f_ini_Refused) = some (.type "function"))
  (xc_Refused : PySem.W.isClsIn K aR = true)
  (xx_Refused : PySem.W.subIn K (.ref aR) (.ref aR) = some true)
  (l_ini_Refused : K.lookup f_ini_Refused = some ⟨oc_ini_Refused, od_ini_Refused, .func (PySem.W.fnOf "__init__" "Refused.__init__" (defArgs sini_Refused) (defBody sini_Refused) (defScope sini_Refused) .none kV_ini_Refused dc_ini_Refused pm_ini_Refused an_ini_Refused cd_ini_Refused ct_ini_Refused), sl_ini_Refused⟩)
  (c_ini_Refused : PySem.W.codeIn K cd_ini_Refused "Refused.__init__" = true)
  (k_ini_Refused : PySem.W.keepIn K (.ref f_ini_Refused) = true)
  (xa_InvalidNumber : PySem.W.nsIn K mainGlobals "InvalidNumber" = some (some (.ref aIN)))
  (xi_InvalidNumber : PySem.W.excInitIn K aIN [.type "IndexError", .type "LookupError", .type "Exception", .type "BaseException", .type "object"] "IndexError.__new__" = true)
  (xo_InvalidNumber : PySem.W.excOver K aIN [.type "IndexError", .type "LookupError", .type "Exception", .type "BaseException", .type "object"] = true)
  (xh_InvalidNumber : PySem.W.hasDictIn K aIN = true)
  (xs_InvalidNumber : PySem.W.findIn K (.ref aIN) "__setattr__" = some (some (.builtin "object.__setattr__")))
  (xb_InvalidNumber : PySem.W.subIn K (.ref aIN) (.type "BaseException") = some true)
  (xt_InvalidNumber : PySem.W.typeIn K (.ref aIN) = some (.type "type"))
  (xk_InvalidNumber : PySem.W.keepIn K (.ref aIN) = true)
  (xg_InvalidNumber : PySem.W.findIn K (.ref aIN) "__getattribute__" = some (some (.builtin "BaseException.__getattribute__")))
  (xe_InvalidNumber : PySem.W.findIn K (.ref aIN) "__getattr__" = some none)
  (xn_InvalidNumber : PySem.W.findIn K (.ref aIN) "given" = some none)
  (xf_InvalidNumber : PySem.W.findIn K (.ref aIN) "__init__" = some (some (.ref f_ini_InvalidNumber)))
  (xy_InvalidNumber : PySem.W.typeIn K (.ref f_ini_InvalidNumber) = some (.type "function"))
  (xc_InvalidNumber : PySem.W.isClsIn K aIN = true)
  (xx_InvalidNumber : PySem.W.subIn K (.ref aIN) (.ref aIN) = some true)
  (l_ini_InvalidNumber : K.lookup f_ini_InvalidNumber = some ⟨oc_ini_InvalidNumber, od_ini_InvalidNumber, .func (PySem.W.fnOf "__init__" "InvalidNumber.__init__" (defArgs sini_InvalidNumber) (defBody sini_InvalidNumber) (defScope sini_InvalidNumber) .none kV_ini_InvalidNumber dc_ini_InvalidNumber pm_ini_InvalidNumber an_ini_InvalidNumber cd_ini_InvalidNumber ct_ini_InvalidNumber), sl_ini_InvalidNumber⟩)
  (c_ini_InvalidNumber : PySem.W.codeIn K cd_ini_InvalidNumber "InvalidNumber.__init__" = true)
  (k_ini_InvalidNumber : PySem.W.keepIn K (.ref f_ini_InvalidNumber) = true)
  (pg : PySem.W.plainGet K aG Str.empty = true)
  (hd : PySem.W.hasDictIn K aG = true)
  (po : PySem.W.plainOver K aG = true)
  (sa : PySem.W.findIn K (.ref aG) "__setattr__" = some (some (.builtin "object.__setattr__")))
  (n1 : PySem.W.findIn K (.ref aG) "_moves" = some none)
  (n2 : PySem.W.findIn K (.ref aG) "_members" = some none)
  (n3 : PySem.W.findIn K (.ref aG) "_products" = some none)
  (n4 : PySem.W.findIn K (.ref aG) "_inverses" = some none)
  (h2 : PySem.W.findIn K (.ref aG) "__class__" = some (some (.builtin "object.__class__")))
  (h3 : PySem.W.specialIn K (.builtin "object.__class__") "__get__" = some (some (.builtin "getset_descriptor.__get__")))
  (h4 : PySem.W.takesIn K (.builtin "object.__class__") = some true)
  (h5 : PySem.W.mroIn K aG (.type "object") = some true)
  (kt : PySem.W.kitOne K (.ref aG) (.ref aG) = some true)
  (aC : PySem.W.nsIn K mainGlobals "Group" = some (some (.ref aG)))
  (mk : PySem.W.makesIn K aG = true)
  (kc : PySem.W.keepIn K (.ref aG) = true)
  (y_FIRST_TOO_LONG : PySem.W.nsIn K mainGlobals "FIRST_TOO_LONG" = some (some (.int (10 ^ 60) t_FIRST_TOO_LONG)))
  (y_int : PySem.W.nsIn K mainGlobals "int" = some none)
  (y_isinstance : PySem.W.nsIn K mainGlobals "isinstance" = some none)
  (y_bool : PySem.W.nsIn K mainGlobals "bool" = some none)
  (y_tuple : PySem.W.nsIn K mainGlobals "tuple" = some none)
  (y_len : PySem.W.nsIn K mainGlobals "len" = some none)
  (y_range : PySem.W.nsIn K mainGlobals "range" = some none)
  (y_MAX_SIZE : PySem.W.nsIn K mainGlobals "MAX_SIZE" = some (some (.int (32) t_MAX_SIZE)))
  (y_sorted : PySem.W.nsIn K mainGlobals "sorted" = some none)
  (y_MAX_PLACES : PySem.W.nsIn K mainGlobals "MAX_PLACES" = some (some (.int (32) t_MAX_PLACES)))
  (y_all : PySem.W.nsIn K mainGlobals "all" = some none)
  (y_set : PySem.W.nsIn K mainGlobals "set" = some none)
  (y_MOST_MOVES : PySem.W.nsIn K mainGlobals "MOST_MOVES" = some (some (.int (4) t_MOST_MOVES)))
  (y_PRIMES : PySem.W.nsIn K mainGlobals "PRIMES" = some (some (.ref aPR)))
  (k_PRIMES : KTup K aPR [2, 3, 5, 7, 11, 13, 17, 19, 23, 29, 31])
  (y_list : PySem.W.nsIn K mainGlobals "list" = some none)
  (y_lcm : PySem.W.nsIn K mainGlobals "lcm" = some (some (.builtin "math.lcm")))
  (y_str : PySem.W.nsIn K mainGlobals "str" = some none)
  (y_dict : PySem.W.nsIn K mainGlobals "dict" = some none)
  (y_enumerate : PySem.W.nsIn K mainGlobals "enumerate" = some none)
  (y_abs : PySem.W.nsIn K mainGlobals "abs" = some none)
  (y_repr : PySem.W.nsIn K mainGlobals "repr" = some none)
  (y_max : PySem.W.nsIn K mainGlobals "max" = some none)
  (y_min : PySem.W.nsIn K mainGlobals "min" = some none)
  (kis : PySem.W.isClsIn K aG = true)
  (kty : PySem.W.typeIn K (.ref aG) = some (.type "type"))
  (y_gcd : PySem.W.nsIn K mainGlobals "gcd" = some (some (.builtin "math.gcd")))
  (xa_InvalidGroup : PySem.W.nsIn K mainGlobals "InvalidGroup" = some (some (.ref aIG)))
  (xq_InvalidGroup : PySem.W.excIn K aIG [.type "ValueError", .type "Exception", .type "BaseException", .type "object"] "ValueError.__new__" = true)
  (xk_InvalidGroup : PySem.W.keepIn K (.ref aIG) = true)
  (xb_InvalidGroup : PySem.W.subIn K (.ref aIG) (.type "BaseException") = some true)
  (xt_InvalidGroup : PySem.W.typeIn K (.ref aIG) = some (.type "type"))
  (xc_InvalidGroup : PySem.W.isClsIn K aIG = true)
  (sb_InvalidGroup_InvalidGroup : PySem.W.subIn K (.ref aIG) (.ref aIG) = some true)
  (sb_InvalidGroup_InvalidNumber : PySem.W.subIn K (.ref aIG) (.ref aIN) = some false)
  (sb_InvalidGroup_Refused : PySem.W.subIn K (.ref aIG) (.ref aR) = some false)
  (sb_InvalidNumber_InvalidGroup : PySem.W.subIn K (.ref aIN) (.ref aIG) = some false)
  (sb_InvalidNumber_Refused : PySem.W.subIn K (.ref aIN) (.ref aR) = some false)
  (sb_Refused_InvalidGroup : PySem.W.subIn K (.ref aR) (.ref aIG) = some false)
  (sb_Refused_InvalidNumber : PySem.W.subIn K (.ref aR) (.ref aIN) = some false)
  {P_right : Addr} (TB : TabB base mg cc_law_right P_right) :
  FnG P w K mg base CX0 16 f_law (PySem.W.fnOf "law" "law" (defArgs slaw) (defBody slaw) (defScope slaw) .none kV_law dc_law pm_law an_law (.ref cc_law) ct_law) ["_law_script"] (spLaw K [(P_right, LNm)]) := by
  have T : Txt K := ⟨⟨pg, hd, po, sa⟩, n1, n2, n3, n4, h2, h3, h4, h5, kt⟩
  have gG : mg "Group" = some (.ref aG) := PySem.W.mg_of X Gh aC
  have g_gcd : mg "gcd" = some (.builtin "math.gcd") := PySem.W.mg_of X Gh y_gcd
  have Kc_Group : OwnK K aG := ⟨T.cl, h2, h3, h4, h5, kis, kty⟩
  have Ep_InvalidGroup : OwnErrP K mg "InvalidGroup" aIG := ⟨xq_InvalidGroup, xk_InvalidGroup, xb_InvalidGroup, xt_InvalidGroup, PySem.W.mg_of X Gh xa_InvalidGroup⟩
  have X3 : Exm3 K := exm3_of xb_InvalidGroup xc_InvalidGroup xt_InvalidGroup xb_InvalidNumber xc_InvalidNumber xt_InvalidNumber xb_Refused xc_Refused xt_Refused sb_InvalidGroup_InvalidGroup sb_InvalidGroup_InvalidNumber sb_InvalidGroup_Refused sb_InvalidNumber_InvalidGroup xx_InvalidNumber sb_InvalidNumber_Refused sb_Refused_InvalidGroup sb_Refused_InvalidNumber xx_Refused
  have g_FIRST_TOO_LONG : ∃ t, mg "FIRST_TOO_LONG" = some (.int (10 ^ 60) t) := ⟨_, PySem.W.mg_of X Gh y_FIRST_TOO_LONG⟩
  have z_int : mg "int" = none := PySem.W.mg_none_of X Gh y_int
  have z_isinstance : mg "isinstance" = none := PySem.W.mg_none_of X Gh y_isinstance
  have z_bool : mg "bool" = none := PySem.W.mg_none_of X Gh y_bool
  have z_tuple : mg "tuple" = none := PySem.W.mg_none_of X Gh y_tuple
  have z_len : mg "len" = none := PySem.W.mg_none_of X Gh y_len
  have z_range : mg "range" = none := PySem.W.mg_none_of X Gh y_range
  have g_MAX_SIZE : ∃ t, mg "MAX_SIZE" = some (.int (32) t) := ⟨_, PySem.W.mg_of X Gh y_MAX_SIZE⟩
  have z_sorted : mg "sorted" = none := PySem.W.mg_none_of X Gh y_sorted
  have g_MAX_PLACES : ∃ t, mg "MAX_PLACES" = some (.int (32) t) := ⟨_, PySem.W.mg_of X Gh y_MAX_PLACES⟩
  have z_all : mg "all" = none := PySem.W.mg_none_of X Gh y_all
  have z_set : mg "set" = none := PySem.W.mg_none_of X Gh y_set
  have g_MOST_MOVES : ∃ t, mg "MOST_MOVES" = some (.int (4) t) := ⟨_, PySem.W.mg_of X Gh y_MOST_MOVES⟩
  have g_Group := gG
  have g_PRIMES : mg "PRIMES" = some (.ref aPR) := PySem.W.mg_of X Gh y_PRIMES
  have z_list : mg "list" = none := PySem.W.mg_none_of X Gh y_list
  have g_lcm : mg "lcm" = some (.builtin "math.lcm") := PySem.W.mg_of X Gh y_lcm
  have z_str : mg "str" = none := PySem.W.mg_none_of X Gh y_str
  have z_dict : mg "dict" = none := PySem.W.mg_none_of X Gh y_dict
  have z_enumerate : mg "enumerate" = none := PySem.W.mg_none_of X Gh y_enumerate
  have z_abs : mg "abs" = none := PySem.W.mg_none_of X Gh y_abs
  have z_repr : mg "repr" = none := PySem.W.mg_none_of X Gh y_repr
  have z_max : mg "max" = none := PySem.W.mg_none_of X Gh y_max
  have z_min : mg "min" = none := PySem.W.mg_none_of X Gh y_min
  have Fu_ini_Refused := fun_mk (st := sini_Refused) l_ini_Refused c_ini_Refused k_ini_Refused
  have b_ini_Refused := Fu_ini_Refused.binds (ps := ["self", "reason"]) fun _ _ _ _ _ _ us hl => match us, hl with | [_, _], _ => rfl
  have ET_Refused : ErrC K aR := ⟨⟨_, _, _, _, PySem.F.excBase_ArithmeticError, PySem.F.store_ArithmeticError, xi_Refused, xo_Refused⟩, xh_Refused, xs_Refused, xb_Refused, xt_Refused, xk_Refused⟩
  have Er_Refused : OwnErr P w K mg base 1 "Refused" aR "reason" := ⟨_, _, _, ET_Refused, ⟨xg_Refused, xe_Refused, xn_Refused⟩, xf_Refused, xy_Refused, ok_ini_Refused Fu_ini_Refused ET_Refused xn_Refused, b_ini_Refused, PySem.W.mg_of X Gh xa_Refused, exm_same xb_Refused xc_Refused xt_Refused xx_Refused⟩
  have Fu_ini_InvalidNumber := fun_mk (st := sini_InvalidNumber) l_ini_InvalidNumber c_ini_InvalidNumber k_ini_InvalidNumber
  have b_ini_InvalidNumber := Fu_ini_InvalidNumber.binds (ps := ["self", "given"]) fun _ _ _ _ _ _ us hl => match us, hl with | [_, _], _ => rfl
  have ET_InvalidNumber : ErrC K aIN := ⟨⟨_, _, _, _, PySem.F.excBase_IndexError, PySem.F.store_IndexError, xi_InvalidNumber, xo_InvalidNumber⟩, xh_InvalidNumber, xs_InvalidNumber, xb_InvalidNumber, xt_InvalidNumber, xk_InvalidNumber⟩
  have Er_InvalidNumber : OwnErr P w K mg base 1 "InvalidNumber" aIN "given" := ⟨_, _, _, ET_InvalidNumber, ⟨xg_InvalidNumber, xe_InvalidNumber, xn_InvalidNumber⟩, xf_InvalidNumber, xy_InvalidNumber, ok_ini_InvalidNumber Fu_ini_InvalidNumber ET_InvalidNumber xn_InvalidNumber, b_ini_InvalidNumber, PySem.W.mg_of X Gh xa_InvalidNumber, exm_same xb_InvalidNumber xc_InvalidNumber xt_InvalidNumber xx_InvalidNumber⟩
  have Fu_is_short := fun_mk (st := sis_short) l_is_short c_is_short k_is_short
  have b_is_short := Fu_is_short.binds (ps := ["number"]) fun _ _ _ _ _ _ us hl => match us, hl with | [_], _ => rfl
  have F_is_short : Own P w K mg base 1 "is_short" 1 r_is_short := ⟨_, _, _, ok_is_short Fu_is_short g_FIRST_TOO_LONG, PySem.W.mg_of X Gh a_is_short, k_is_short, b_is_short⟩
  have Fu_is_integer := fun_mk (st := sis_integer) l_is_integer c_is_integer k_is_integer
  have b_is_integer := Fu_is_integer.binds (ps := ["value"]) fun _ _ _ _ _ _ us hl => match us, hl with | [_], _ => rfl
  have F_is_integer : Own P w K mg base 2 "is_integer" 1 r_is_integer := ⟨_, _, _, ok_is_integer Fu_is_integer F_is_short z_bool z_int z_isinstance, PySem.W.mg_of X Gh a_is_integer, k_is_integer, b_is_integer⟩
  have Fu_is_within := fun_mk (st := sis_within) l_is_within c_is_within k_is_within
  have b_is_within := Fu_is_within.binds (ps := ["value", "least", "most"]) fun _ _ _ _ _ _ us hl => match us, hl with | [_, _, _], _ => rfl
  have F_is_within : Own P w K mg base 3 "is_within" 3 r_is_within := ⟨_, _, _, ok_is_within Fu_is_within F_is_integer, PySem.W.mg_of X Gh a_is_within, k_is_within, b_is_within⟩
  have Fu_joined := fun_mk (st := sjoined) l_joined c_joined k_joined
  have b_joined := Fu_joined.binds (ps := ["one", "other"]) fun _ _ _ _ _ _ us hl => match us, hl with | [_, _], _ => rfl
  have F_joined : Own P w K mg base 1 "joined" 2 r_joined := ⟨_, _, _, ok_joined Fu_joined z_tuple, PySem.W.mg_of X Gh a_joined, k_joined, b_joined⟩
  have Fu_all_renamings := fun_mk (st := sall_renamings) l_all_renamings c_all_renamings k_all_renamings
  have b_all_renamings := Fu_all_renamings.binds (ps := ["moves"]) fun _ _ _ _ _ _ us hl => match us, hl with | [_], _ => rfl
  have F_all_renamings : Own P w K mg base 2 "all_renamings" 1 r_all_renamings := ⟨_, _, _, ok_all_renamings Fu_all_renamings F_joined g_MAX_SIZE z_len z_range z_sorted z_tuple, PySem.W.mg_of X Gh a_all_renamings, k_all_renamings, b_all_renamings⟩
  have Fu_power_of := fun_mk (st := spower_of) l_power_of c_power_of k_power_of
  have b_power_of := Fu_power_of.binds (ps := ["products", "member", "number"]) fun _ _ _ _ _ _ us hl => match us, hl with | [_, _, _], _ => rfl
  have F_power_of : Own P w K mg base 1 "power_of" 3 r_power_of := ⟨_, _, _, ok_power_of Fu_power_of z_range, PySem.W.mg_of X Gh a_power_of, k_power_of, b_power_of⟩
  have Fu_order_of := fun_mk (st := sorder_of) l_order_of c_order_of k_order_of
  have b_order_of := Fu_order_of.binds (ps := ["products", "member"]) fun _ _ _ _ _ _ us hl => match us, hl with | [_, _], _ => rfl
  have F_order_of : Own P w K mg base 1 "order_of" 2 r_order_of := ⟨_, _, _, ok_order_of Fu_order_of , PySem.W.mg_of X Gh a_order_of, k_order_of, b_order_of⟩
  have Fu_closed_members := fun_mk (st := sclosed_members) l_closed_members c_closed_members k_closed_members
  have b_closed_members := Fu_closed_members.binds (ps := ["products", "makers"]) fun _ _ _ _ _ _ us hl => match us, hl with | [_, _], _ => rfl
  have F_closed_members : Own P w K mg base 1 "closed_members" 2 r_closed_members := ⟨_, _, _, ok_closed_members Fu_closed_members z_sorted z_tuple, PySem.W.mg_of X Gh a_closed_members, k_closed_members, b_closed_members⟩
  have Fu_is_renaming := fun_mk (st := sis_renaming) l_is_renaming c_is_renaming k_is_renaming
  have b_is_renaming := Fu_is_renaming.binds (ps := ["value"]) fun _ _ _ _ _ _ us hl => match us, hl with | [_], _ => rfl
  have F_is_renaming : Own P w K mg base 4 "is_renaming" 1 r_is_renaming := ⟨_, _, _, ok_is_renaming Fu_is_renaming F_is_within g_MAX_PLACES z_all z_isinstance z_len z_set z_tuple, PySem.W.mg_of X Gh a_is_renaming, k_is_renaming, b_is_renaming⟩
  have Fu_are_moves := fun_mk (st := sare_moves) l_are_moves c_are_moves k_are_moves
  have b_are_moves := Fu_are_moves.binds (ps := ["value"]) fun _ _ _ _ _ _ us hl => match us, hl with | [_], _ => rfl
  have F_are_moves : Own P w K mg base 5 "are_moves" 1 r_are_moves := ⟨_, _, _, ok_are_moves Fu_are_moves F_is_renaming g_MOST_MOVES z_all z_isinstance z_len z_tuple, PySem.W.mg_of X Gh a_are_moves, k_are_moves, b_are_moves⟩
  have Fu_p_size := fun_mk (st := sp_size) l_p_size c_p_size k_p_size
  have b_p_size := Fu_p_size.binds (ps := ["self"]) fun _ _ _ _ _ _ us hl => match us, hl with | [_], _ => rfl
  have Pr_size : OwnProp P w K mg base 1 aG "size" r_p_size := ⟨_, _, _, _, ok_p_size Fu_p_size T z_len, ⟨a_p_size, g_p_size, t_p_size, _, e_p_size⟩, T.cl, b_p_size⟩
  have Fu_p_moves := fun_mk (st := sp_moves) l_p_moves c_p_moves k_p_moves
  have b_p_moves := Fu_p_moves.binds (ps := ["self"]) fun _ _ _ _ _ _ us hl => match us, hl with | [_], _ => rfl
  have Pr_moves : OwnProp P w K mg base 1 aG "moves" r_p_moves := ⟨_, _, _, _, ok_p_moves Fu_p_moves T, ⟨a_p_moves, g_p_moves, t_p_moves, _, e_p_moves⟩, T.cl, b_p_moves⟩
  have Fu_p_all_products := fun_mk (st := sp_all_products) l_p_all_products c_p_all_products k_p_all_products
  have b_p_all_products := Fu_p_all_products.binds (ps := ["self"]) fun _ _ _ _ _ _ us hl => match us, hl with | [_], _ => rfl
  have Pr_all_products : OwnProp P w K mg base 1 aG "all_products" r_p_all_products := ⟨_, _, _, _, ok_p_all_products Fu_p_all_products T, ⟨a_p_all_products, g_p_all_products, t_p_all_products, _, e_p_all_products⟩, T.cl, b_p_all_products⟩
  have Fu_p_all_inverses := fun_mk (st := sp_all_inverses) l_p_all_inverses c_p_all_inverses k_p_all_inverses
  have b_p_all_inverses := Fu_p_all_inverses.binds (ps := ["self"]) fun _ _ _ _ _ _ us hl => match us, hl with | [_], _ => rfl
  have Pr_all_inverses : OwnProp P w K mg base 1 aG "all_inverses" r_p_all_inverses := ⟨_, _, _, _, ok_p_all_inverses Fu_p_all_inverses T, ⟨a_p_all_inverses, g_p_all_inverses, t_p_all_inverses, _, e_p_all_inverses⟩, T.cl, b_p_all_inverses⟩
  have Fu_is_member := fun_mk (st := sis_member) l_is_member c_is_member k_is_member
  have b_is_member := Fu_is_member.binds (ps := ["group", "value"]) fun _ _ _ _ _ _ us hl => match us, hl with | [_, _], _ => rfl
  have F_is_member : Own P w K mg base 4 "is_member" 2 r_is_member := ⟨_, _, _, ok_is_member Fu_is_member F_is_within Pr_size, PySem.W.mg_of X Gh a_is_member, k_is_member, b_is_member⟩
  have Fu_need_group := fun_mk (st := sneed_group) l_need_group c_need_group k_need_group
  have b_need_group := Fu_need_group.binds (ps := ["group"]) fun _ _ _ _ _ _ us hl => match us, hl with | [_], _ => rfl
  have F_need_group : Own P w K mg base 1 "need_group" 1 r_need_group := ⟨_, _, _, ok_need_group Fu_need_group T g_Group z_isinstance, PySem.W.mg_of X Gh a_need_group, k_need_group, b_need_group⟩
  have Fu_is_group_part := fun_mk (st := sis_group_part) l_is_group_part c_is_group_part k_is_group_part
  have b_is_group_part := Fu_is_group_part.binds (ps := ["group", "value"]) fun _ _ _ _ _ _ us hl => match us, hl with | [_, _], _ => rfl
  have F_is_group_part : Own P w K mg base 5 "is_group_part" 2 r_is_group_part := ⟨_, _, _, ok_is_group_part Fu_is_group_part F_closed_members F_is_member F_need_group Pr_all_products z_all z_isinstance z_tuple, PySem.W.mg_of X Gh a_is_group_part, k_is_group_part, b_is_group_part⟩
  have Fu_need_part := fun_mk (st := sneed_part) l_need_part c_need_part k_need_part
  have b_need_part := Fu_need_part.binds (ps := ["group", "part"]) fun _ _ _ _ _ _ us hl => match us, hl with | [_, _], _ => rfl
  have F_need_part : Own P w K mg base 6 "need_part" 2 r_need_part := ⟨_, _, _, ok_need_part Fu_need_part F_is_group_part, PySem.W.mg_of X Gh a_need_part, k_need_part, b_need_part⟩
  have Fu_moved_members := fun_mk (st := smoved_members) l_moved_members c_moved_members k_moved_members
  have b_moved_members := Fu_moved_members.binds (ps := ["group", "part", "member"]) fun _ _ _ _ _ _ us hl => match us, hl with | [_, _, _], _ => rfl
  have F_moved_members : Own P w K mg base 3 "moved_members" 3 r_moved_members := ⟨_, _, _, ok_moved_members Fu_moved_members Pr_all_inverses Pr_all_products z_sorted z_tuple, PySem.W.mg_of X Gh a_moved_members, k_moved_members, b_moved_members⟩
  have Fu_need_prime := fun_mk (st := sneed_prime) l_need_prime c_need_prime k_need_prime
  have b_need_prime := Fu_need_prime.binds (ps := ["prime"]) fun _ _ _ _ _ _ us hl => match us, hl with | [_], _ => rfl
  have F_need_prime : Own P w K mg base 3 "need_prime" 1 r_need_prime := ⟨_, _, _, ok_need_prime Fu_need_prime F_is_integer g_PRIMES k_PRIMES, PySem.W.mg_of X Gh a_need_prime, k_need_prime, b_need_prime⟩
  have Fu_greater_part := fun_mk (st := sgreater_part) l_greater_part c_greater_part k_greater_part
  have b_greater_part := Fu_greater_part.binds (ps := ["group", "part", "prime"]) fun _ _ _ _ _ _ us hl => match us, hl with | [_, _, _], _ => rfl
  have F_greater_part : Own P w K mg base 4 "greater_part" 3 r_greater_part := ⟨_, _, _, ok_greater_part Fu_greater_part F_closed_members F_moved_members F_power_of Pr_all_products Pr_size z_range, PySem.W.mg_of X Gh a_greater_part, k_greater_part, b_greater_part⟩
  have Fu_prime_part := fun_mk (st := sprime_part) l_prime_part c_prime_part k_prime_part
  have b_prime_part := Fu_prime_part.binds (ps := ["group", "prime"]) fun _ _ _ _ _ _ us hl => match us, hl with | [_, _], _ => rfl
  have F_prime_part : Own P w K mg base 5 "prime_part" 2 r_prime_part := ⟨_, _, _, ok_prime_part Fu_prime_part F_greater_part F_need_group F_need_prime Pr_size z_len, PySem.W.mg_of X Gh a_prime_part, k_prime_part, b_prime_part⟩
  have Fu_normalizer_of := fun_mk (st := snormalizer_of) l_normalizer_of c_normalizer_of k_normalizer_of
  have b_normalizer_of := Fu_normalizer_of.binds (ps := ["group", "part"]) fun _ _ _ _ _ _ us hl => match us, hl with | [_, _], _ => rfl
  have F_normalizer_of : Own P w K mg base 7 "normalizer_of" 2 r_normalizer_of := ⟨_, _, _, ok_normalizer_of Fu_normalizer_of F_moved_members F_need_part Pr_size z_range z_tuple, PySem.W.mg_of X Gh a_normalizer_of, k_normalizer_of, b_normalizer_of⟩
  have Fu_centralizer_of := fun_mk (st := scentralizer_of) l_centralizer_of c_centralizer_of k_centralizer_of
  have b_centralizer_of := Fu_centralizer_of.binds (ps := ["group", "part"]) fun _ _ _ _ _ _ us hl => match us, hl with | [_, _], _ => rfl
  have F_centralizer_of : Own P w K mg base 7 "centralizer_of" 2 r_centralizer_of := ⟨_, _, _, ok_centralizer_of Fu_centralizer_of F_need_part Pr_all_products Pr_size z_all z_range z_tuple, PySem.W.mg_of X Gh a_centralizer_of, k_centralizer_of, b_centralizer_of⟩
  have Fu_primes_of := fun_mk (st := sprimes_of) l_primes_of c_primes_of k_primes_of
  have b_primes_of := Fu_primes_of.binds (ps := ["number"]) fun _ _ _ _ _ _ us hl => match us, hl with | [_], _ => rfl
  have F_primes_of : Own P w K mg base 1 "primes_of" 1 r_primes_of := ⟨_, _, _, ok_primes_of Fu_primes_of , PySem.W.mg_of X Gh a_primes_of, k_primes_of, b_primes_of⟩
  have Fu_greatest_power := fun_mk (st := sgreatest_power) l_greatest_power c_greatest_power k_greatest_power
  have b_greatest_power := Fu_greatest_power.binds (ps := ["group", "prime"]) fun _ _ _ _ _ _ us hl => match us, hl with | [_, _], _ => rfl
  have F_greatest_power : Own P w K mg base 3 "greatest_power" 2 r_greatest_power := ⟨_, _, _, ok_greatest_power Fu_greatest_power Pr_size, PySem.W.mg_of X Gh a_greatest_power, k_greatest_power, b_greatest_power⟩
  have Fu_is_eight := fun_mk (st := sis_eight) l_is_eight c_is_eight k_is_eight
  have b_is_eight := Fu_is_eight.binds (ps := ["group", "one", "other"]) fun _ _ _ _ _ _ us hl => match us, hl with | [_, _, _], _ => rfl
  have F_is_eight : Own P w K mg base 4 "is_eight" 3 r_is_eight := ⟨_, _, _, ok_is_eight Fu_is_eight F_closed_members F_greatest_power F_order_of F_power_of Pr_all_inverses Pr_all_products, PySem.W.mg_of X Gh a_is_eight, k_is_eight, b_is_eight⟩
  have Fu_entry_for := fun_mk (st := sentry_for) l_entry_for c_entry_for k_entry_for
  have b_entry_for := Fu_entry_for.binds (ps := ["group", "prime"]) fun _ _ _ _ _ _ us hl => match us, hl with | [_, _], _ => rfl
  have F_entry_for : Own P w K mg base 5 "entry_for" 2 r_entry_for := ⟨_, _, _, ok_entry_for Fu_entry_for F_greatest_power F_is_eight F_order_of Pr_all_products Pr_size z_range, PySem.W.mg_of X Gh a_entry_for, k_entry_for, b_entry_for⟩
  have Fu_plain_paper := fun_mk (st := splain_paper) l_plain_paper c_plain_paper k_plain_paper
  have b_plain_paper := Fu_plain_paper.binds (ps := ["group"]) fun _ _ _ _ _ _ us hl => match us, hl with | [_], _ => rfl
  have F_plain_paper : Own P w K mg base 6 "plain_paper" 1 r_plain_paper := ⟨_, _, _, ok_plain_paper Fu_plain_paper F_entry_for F_primes_of Pr_size z_tuple, PySem.W.mg_of X Gh a_plain_paper, k_plain_paper, b_plain_paper⟩
  have Fu_turns_of_part := fun_mk (st := sturns_of_part) l_turns_of_part c_turns_of_part k_turns_of_part
  have b_turns_of_part := Fu_turns_of_part.binds (ps := ["group", "prime"]) fun _ _ _ _ _ _ us hl => match us, hl with | [_, _], _ => rfl
  have F_turns_of_part : Own P w K mg base 8 "turns_of_part" 2 r_turns_of_part := ⟨_, _, _, ok_turns_of_part Fu_turns_of_part F_centralizer_of F_normalizer_of F_prime_part z_len, PySem.W.mg_of X Gh a_turns_of_part, k_turns_of_part, b_turns_of_part⟩
  have Fu_sizes_for := fun_mk (st := ssizes_for) l_sizes_for c_sizes_for k_sizes_for
  have b_sizes_for := Fu_sizes_for.binds (ps := ["group", "entry", "half"]) fun _ _ _ _ _ _ us hl => match us, hl with | [_, _, _], _ => rfl
  have F_sizes_for : Own P w K mg base 9 "sizes_for" 3 r_sizes_for := ⟨_, _, _, ok_sizes_for Fu_sizes_for F_greatest_power F_turns_of_part, PySem.W.mg_of X Gh a_sizes_for, k_sizes_for, b_sizes_for⟩
  have Fu_chain_of := fun_mk (st := schain_of) l_chain_of c_chain_of k_chain_of
  have b_chain_of := Fu_chain_of.binds (ps := ["sizes"]) fun _ _ _ _ _ _ us hl => match us, hl with | [_], _ => rfl
  have F_chain_of : Own P w K mg base 1 "chain_of" 1 r_chain_of := ⟨_, _, _, ok_chain_of Fu_chain_of g_gcd g_lcm z_len z_list z_range z_tuple, PySem.W.mg_of X Gh a_chain_of, k_chain_of, b_chain_of⟩
  have Fu_law_round_moves := fun_mk (st := slaw_round_moves) l_law_round_moves c_law_round_moves k_law_round_moves
  have b_law_round_moves := Fu_law_round_moves.binds (ps := ["_law_size"]) fun _ _ _ _ _ _ us hl => match us, hl with | [_], _ => rfl
  have F__law_round_moves : Own P w K mg base 1 "_law_round_moves" 1 r_law_round_moves := ⟨_, _, _, ok_law_round_moves Fu_law_round_moves z_int z_range z_tuple, PySem.W.mg_of X Gh a_law_round_moves, k_law_round_moves, b_law_round_moves⟩
  have Fu_law_ready_moves := fun_mk (st := slaw_ready_moves) l_law_ready_moves c_law_ready_moves k_law_ready_moves
  have b_law_ready_moves := Fu_law_ready_moves.binds (ps := []) fun _ _ _ _ _ _ us hl => match us, hl with | [], _ => rfl
  have O__law_ready_moves : OwnO P w K mg base 2 "_law_ready_moves" 0 r_law_ready_moves := ⟨_, _, _, ok_law_ready_moves Fu_law_ready_moves F__law_round_moves z_dict z_range z_str, PySem.W.mg_of X Gh a_law_ready_moves, k_law_ready_moves, b_law_ready_moves⟩
  have Fu_self_settle := fun_mk (st := sself_settle) l_self_settle c_self_settle k_self_settle
  have b_self_settle := Fu_self_settle.binds (ps := ["self", "moves"]) fun _ _ _ _ _ _ us hl => match us, hl with | [_, _], _ => rfl
  have Se_settle : OwnSelf P w K mg base 2 aG "_settle" r_self_settle := ⟨_, _, _, ok_self_settle Fu_self_settle F_joined T z_enumerate z_len z_range z_tuple, ⟨a_self_settle, i_self_settle, k_self_settle⟩, T.cl, b_self_settle⟩
  have Fu_self_init := fun_mk (st := sself_init) l_self_init c_self_init k_self_init
  have b_self_init := Fu_self_init.binds (ps := ["self", "moves"]) fun _ _ _ _ _ _ us hl => match us, hl with | [_, _], _ => rfl
  have Init : OwnInit P w K mg base 6 aG "Group" r_self_init := ⟨_, _, _, ok_self_init Fu_self_init F_all_renamings F_are_moves Se_settle, ⟨mk, a_self_init, i_self_init, kc⟩, gG, b_self_init⟩
  have Fu_x_need_group := fun_mk (st := sx_need_group) l_x_need_group c_x_need_group k_x_need_group
  have b_x_need_group := Fu_x_need_group.binds (ps := ["group"]) fun _ _ _ _ _ _ us hl => match us, hl with | [_], _ => rfl
  have X_need_group : OwnX P w K mg base 3 "need_group" 1 rx_need_group ex_need_group := ⟨_, _, _, ok_x_need_group Fu_x_need_group Ep_InvalidGroup Kc_Group g_Group z_isinstance, PySem.W.mg_of X Gh a_x_need_group, k_x_need_group, b_x_need_group⟩
  have Fu_bar_members := fun_mk (st := sbar_members) l_bar_members c_bar_members k_bar_members
  have b_bar_members := Fu_bar_members.binds (ps := ["group"]) fun _ _ _ _ _ _ us hl => match us, hl with | [_], _ => rfl
  have X_bar_members : OwnX P w K mg base 4 "bar_members" 1 rx_bar_members ex_bar_members := ⟨_, _, _, ok_bar_members Fu_bar_members X_need_group, PySem.W.mg_of X Gh a_bar_members, k_bar_members, b_bar_members⟩
  have Fu_is_bar := fun_mk (st := sis_bar) l_is_bar c_is_bar k_is_bar
  have b_is_bar := Fu_is_bar.binds (ps := ["group", "value"]) fun _ _ _ _ _ _ us hl => match us, hl with | [_, _], _ => rfl
  have X_is_bar : OwnX P w K mg base 4 "is_bar" 2 rx_is_bar ex_is_bar := ⟨_, _, _, ok_is_bar Fu_is_bar X_need_group, PySem.W.mg_of X Gh a_is_bar, k_is_bar, b_is_bar⟩
  have Fu_again_paper := fun_mk (st := sagain_paper) l_again_paper c_again_paper k_again_paper
  have b_again_paper := Fu_again_paper.binds (ps := ["group"]) fun _ _ _ _ _ _ us hl => match us, hl with | [_], _ => rfl
  have X_again_paper : OwnX P w K mg base 4 "again_paper" 1 rx_again_paper ex_again_paper := ⟨_, _, _, ok_again_paper Fu_again_paper X_need_group, PySem.W.mg_of X Gh a_again_paper, k_again_paper, b_again_paper⟩
  have Fu_is_again_paper := fun_mk (st := sis_again_paper) l_is_again_paper c_is_again_paper k_is_again_paper
  have b_is_again_paper := Fu_is_again_paper.binds (ps := ["group", "value"]) fun _ _ _ _ _ _ us hl => match us, hl with | [_, _], _ => rfl
  have X_is_again_paper : OwnX P w K mg base 4 "is_again_paper" 2 rx_is_again_paper ex_is_again_paper := ⟨_, _, _, ok_is_again_paper Fu_is_again_paper X_need_group, PySem.W.mg_of X Gh a_is_again_paper, k_is_again_paper, b_is_again_paper⟩
  have Fu_made_commuting := fun_mk (st := smade_commuting) l_made_commuting c_made_commuting k_made_commuting
  have b_made_commuting := Fu_made_commuting.binds (ps := ["group"]) fun _ _ _ _ _ _ us hl => match us, hl with | [_], _ => rfl
  have X_made_commuting : OwnX P w K mg base 4 "made_commuting" 1 rx_made_commuting ex_made_commuting := ⟨_, _, _, ok_made_commuting Fu_made_commuting X_need_group, PySem.W.mg_of X Gh a_made_commuting, k_made_commuting, b_made_commuting⟩
  have Fu_prime_turns := fun_mk (st := sprime_turns) l_prime_turns c_prime_turns k_prime_turns
  have b_prime_turns := Fu_prime_turns.binds (ps := ["group", "prime"]) fun _ _ _ _ _ _ us hl => match us, hl with | [_, _], _ => rfl
  have X_prime_turns : OwnX P w K mg base 9 "prime_turns" 2 rx_prime_turns ex_prime_turns := ⟨_, _, _, ok_prime_turns Fu_prime_turns Er_InvalidNumber F_is_integer F_primes_of F_turns_of_part Pr_size X_need_group, PySem.W.mg_of X Gh a_prime_turns, k_prime_turns, b_prime_turns⟩
  have Fu_need_paper := fun_mk (st := sneed_paper) l_need_paper c_need_paper k_need_paper
  have b_need_paper := Fu_need_paper.binds (ps := ["group"]) fun _ _ _ _ _ _ us hl => match us, hl with | [_], _ => rfl
  have X_need_paper : OwnX P w K mg base 7 "need_paper" 1 rx_need_paper ex_need_paper := ⟨_, _, _, ok_need_paper Fu_need_paper Er_Refused F_plain_paper, PySem.W.mg_of X Gh a_need_paper, k_need_paper, b_need_paper⟩
  have Fu_again_step := fun_mk (st := sagain_step) l_again_step c_again_step k_again_step
  have b_again_step := Fu_again_step.binds (ps := ["group"]) fun _ _ _ _ _ _ us hl => match us, hl with | [_], _ => rfl
  have X_again_step : OwnX P w K mg base 9 "again_step" 1 rx_again_step ex_again_step := ⟨_, _, _, ok_again_step Fu_again_step F_turns_of_part X_need_group X_need_paper g_lcm, PySem.W.mg_of X Gh a_again_step, k_again_step, b_again_step⟩
  have Fu_list_again := fun_mk (st := slist_again) l_list_again c_list_again k_list_again
  have b_list_again := Fu_list_again.binds (ps := ["group", "number"]) fun _ _ _ _ _ _ us hl => match us, hl with | [_, _], _ => rfl
  have X_list_again : OwnX P w K mg base 10 "list_again" 2 rx_list_again ex_list_again := ⟨_, _, _, ok_list_again Fu_list_again Er_InvalidNumber F_chain_of F_is_integer F_sizes_for X_need_group X_need_paper, PySem.W.mg_of X Gh a_list_again, k_list_again, b_list_again⟩
  have Fu_law_dice := fun_mk (st := slaw_dice) l_law_dice c_law_dice k_law_dice
  have b_law_dice := Fu_law_dice.binds (ps := ["_law_script", "_law_at"]) fun _ _ _ _ _ _ us hl => match us, hl with | [_, _], _ => rfl
  have Dr_law_dice : OwnS P w K mg base 1 "_law_dice" (spDice K) := ⟨_, _, _, ok_law_dice Fu_law_dice z_len z_int z_abs, PySem.W.mg_of X Gh a_law_dice, k_law_dice, b_law_dice⟩
  have Fu_law_roll := fun_mk (st := slaw_roll) l_law_roll c_law_roll k_law_roll
  have b_law_roll := Fu_law_roll.binds (ps := ["_law_dice_here", "_law_total"]) fun _ _ _ _ _ _ us hl => match us, hl with | [_, _], _ => rfl
  have Dr_law_roll : OwnS P w K mg base 1 "_law_roll" spRollW := ⟨_, _, _, ok_law_rollW Fu_law_roll z_int, PySem.W.mg_of X Gh a_law_roll, k_law_roll, b_law_roll⟩
  have Fu_law_roll := fun_mk (st := slaw_roll) l_law_roll c_law_roll k_law_roll
  have b_law_roll := Fu_law_roll.binds (ps := ["_law_dice_here", "_law_total"]) fun _ _ _ _ _ _ us hl => match us, hl with | [_, _], _ => rfl
  have Dr_roll_small : OwnS P w K mg base 1 "_law_roll" spRoll := ⟨_, _, _, ok_law_roll Fu_law_roll z_int, PySem.W.mg_of X Gh a_law_roll, k_law_roll, b_law_roll⟩
  have Fu_law_one_of := fun_mk (st := slaw_one_of) l_law_one_of c_law_one_of k_law_one_of
  have b_law_one_of := Fu_law_one_of.binds (ps := ["_law_dice_here", "_law_items"]) fun _ _ _ _ _ _ us hl => match us, hl with | [_, _], _ => rfl
  have Dr_law_one_of : OwnS P w K mg base 2 "_law_one_of" (spOne K) := ⟨_, _, _, ok_law_one_of Fu_law_one_of Dr_roll_small z_len, PySem.W.mg_of X Gh a_law_one_of, k_law_one_of, b_law_one_of⟩
  have Fu_law_met := fun_mk (st := slaw_met) l_law_met c_law_met k_law_met
  have b_law_met := Fu_law_met.binds (ps := ["_law_call"]) fun _ _ _ _ _ _ us hl => match us, hl with | [_], _ => rfl
  have M3 : Met3 K mg f_law_met cd_law_met := ⟨⟨PySem.W.mg_of X Gh a_law_met, k_law_met, ⟨_, _, _, _, _, _, _, _, l_law_met⟩, c_law_met⟩, PySem.W.mg_of X Gh xa_InvalidGroup, PySem.W.mg_of X Gh xa_InvalidNumber, PySem.W.mg_of X Gh xa_Refused, z_repr, ET_InvalidNumber, ⟨xg_InvalidNumber, xe_InvalidNumber, xn_InvalidNumber⟩, ET_Refused, ⟨xg_Refused, xe_Refused, xn_Refused⟩⟩
  have Fc_right : FunC K "_law_right" "_law_right" slaw_right f_law_right _ cc_law_right := ⟨⟨_, _, _, _, _, _, _, _, rfl, l_law_right, c_law_right⟩⟩
  have Fu_law_right := fun_mk (st := slaw_right) l_law_right c_law_right k_law_right
  have b_law_right := Fu_law_right.binds (ps := ["_law_dice_here"]) fun _ _ _ _ _ _ us hl => match us, hl with | [_], _ => rfl
  have Dr_law_right : OwnG P w K mg base 15 "_law_right" (spRight [(P_right, LNm)]) := ⟨_, _, _, ok_law_right Fc_right M3 TB List.mem_cons_self (fun p hp _ => by cases hp with | head => rfl | tail _ h => cases h) (pure_right X3) Dr_law_one_of Dr_law_roll Init O__law_ready_moves X_again_paper X_again_step X_bar_members X_is_again_paper X_is_bar X_list_again X_made_commuting X_prime_turns z_repr, PySem.W.mg_of X Gh a_law_right, k_law_right, b_law_right⟩
  have Fc_law : FunC K "law" "law" slaw f_law _ cc_law := ⟨⟨_, _, _, _, _, _, _, _, rfl, l_law, c_law⟩⟩
  have Fu_law := fun_mk (st := slaw) l_law c_law k_law
  have b_law := Fu_law.binds (ps := ["_law_script"]) fun _ _ _ _ _ _ us hl => match us, hl with | [_], _ => rfl
  exact ok_law Fc_law Dr_law_dice Dr_law_right z_range z_max z_min z_len
theorem law_at {l : PySem.W.OpenLaw} {w : World} {K : PySem.W.Frag} {mg : Str → Option Value} {h : Heap} {fa f_law c1 P1 : Addr} {fd : FuncData} (X : K.In h) (Gh : h.Ns mainGlobals mg) (hfa : mg "law" = some (.ref fa)) (a_law : PySem.W.nsIn K mainGlobals "law" = some (some (.ref f_law)))
    (t1 : PySem.W.CodeHd h c1 P1 ∧ h.get? P1 = some (PySem.W.tabObj #[])) (n1 : K.lookup P1 = none) (hb : ∀ (s : Shared) (u : Value), BindsTo s fd ⟨[u], []⟩ [("_law_script", u)])
    (L : ∀ base : Heap, TabB base mg c1 P1 → FnG l.prog w K mg base CX0 16 f_law fd ["_law_script"] (spLaw K [(P1, LNm)])) :
    ∃ (fd : FuncData) (cs : List (Addr × Addr)) (sp : Sp), (∀ p ∈ cs, h.get? p.2 = some (PySem.W.tabObj #[])) ∧ (∀ p ∈ cs, K.lookup p.2 = none) ∧ (∀ p ∈ cs, PySem.W.CodeHd h p.1 p.2) ∧ (∀ (s : Shared) (u : Value), BindsTo s fd ⟨[u], []⟩ [("_law_script", u)]) ∧
        (∀ (H : Hp) (a : Addr) (ns : List Int), (∀ p ∈ cs, H p.2 = some (.tbl #[])) → SqL K H a (ns.map V.int) → sp [.ref a] H (fun v _ => v = .bl true) fun _ _ _ => False) ∧
        ∀ base : Heap, K.In base → base.Ns mainGlobals mg → (∀ p ∈ cs, TabB base mg p.1 p.2) → FnG l.prog w K mg base CX0 16 fa fd ["_law_script"] sp := by
  have e := hfa.symm.trans (PySem.W.mg_of X Gh a_law)
  cases e
  refine ⟨fd, [(c1, P1)], spLaw K [(P1, LNm)], ?_, ?_, ?_, hb, fun H a ns hH hS => ⟨a, ns, rfl, ?_, hS, fun _ => rfl⟩, fun base _ _ h3 => L base (h3 (c1, P1) List.mem_cons_self)⟩
  · intro p hp
    rw [List.mem_singleton] at hp
    subst hp
    exact t1.2
  · intro p hp
    rw [List.mem_singleton] at hp
    subst hp
    exact n1
  · intro p hp
    rw [List.mem_singleton] at hp
    subst hp
    exact t1.1
  · intro p hp
    rw [List.mem_singleton] at hp
    subst hp
    exact TabS.nil (hH (c1, P1) List.mem_cons_self)
end K77

open PySem PySem.W PyProof.Rows
set_option maxRecDepth 100000 in
set_option maxHeartbeats 0 in
theorem PySem.Challenge.cw_groupsover_k77_errors_of_what_comes_agai_holds : PySem.Challenge.rw_groupsover_k77_errors_of_what_comes_agai.Holds := by
  w_on; o_law; k_head; (case hw => w_witness2)
  k_fill
  refine K77.walk_G (n := 63) (k := 16) (x := "_law_script") rfl (by decide) rfl ⟨rfl, by decide, by decide⟩ (fun w h Y => PySem.W.km_in_of Y) ?F
  case F =>
    intro w mg fa h Y KX G hmg _
    have TY := PySem.W.km_tabs_of Y
    refine' (fun A => ?fin) (fun base TB => K77.all_own (P := PySem.Challenge.pw_groupsover_k77_errors_of_what_comes_agai) (w := w) (base := base) (P_right := 568) (TB := TB) KX G (a_is_short := ?a_is_short) (l_is_short := ?l_is_short) (c_is_short := ?c_is_short) (k_is_short := ?k_is_short) (a_is_integer := ?a_is_integer) (l_is_integer := ?l_is_integer) (c_is_integer := ?c_is_integer) (k_is_integer := ?k_is_integer) (a_is_within := ?a_is_within) (l_is_within := ?l_is_within) (c_is_within := ?c_is_within) (k_is_within := ?k_is_within) (a_joined := ?a_joined) (l_joined := ?l_joined) (c_joined := ?c_joined) (k_joined := ?k_joined) (a_all_renamings := ?a_all_renamings) (l_all_renamings := ?l_all_renamings) (c_all_renamings := ?c_all_renamings) (k_all_renamings := ?k_all_renamings) (a_power_of := ?a_power_of) (l_power_of := ?l_power_of) (c_power_of := ?c_power_of) (k_power_of := ?k_power_of) (a_order_of := ?a_order_of) (l_order_of := ?l_order_of) (c_order_of := ?c_order_of) (k_order_of := ?k_order_of) (a_closed_members := ?a_closed_members) (l_closed_members := ?l_closed_members) (c_closed_members := ?c_closed_members) (k_closed_members := ?k_closed_members) (a_is_renaming := ?a_is_renaming) (l_is_renaming := ?l_is_renaming) (c_is_renaming := ?c_is_renaming) (k_is_renaming := ?k_is_renaming) (a_are_moves := ?a_are_moves) (l_are_moves := ?l_are_moves) (c_are_moves := ?c_are_moves) (k_are_moves := ?k_are_moves) (a_p_size := ?a_p_size) (g_p_size := ?g_p_size) (t_p_size := ?t_p_size) (e_p_size := ?e_p_size) (l_p_size := ?l_p_size) (c_p_size := ?c_p_size) (k_p_size := ?k_p_size) (a_p_moves := ?a_p_moves) (g_p_moves := ?g_p_moves) (t_p_moves := ?t_p_moves) (e_p_moves := ?e_p_moves) (l_p_moves := ?l_p_moves) (c_p_moves := ?c_p_moves) (k_p_moves := ?k_p_moves) (a_p_all_products := ?a_p_all_products) (g_p_all_products := ?g_p_all_products) (t_p_all_products := ?t_p_all_products) (e_p_all_products := ?e_p_all_products) (l_p_all_products := ?l_p_all_products) (c_p_all_products := ?c_p_all_products) (k_p_all_products := ?k_p_all_products) (a_p_all_inverses := ?a_p_all_inverses) (g_p_all_inverses := ?g_p_all_inverses) (t_p_all_inverses := ?t_p_all_inverses) (e_p_all_inverses := ?e_p_all_inverses) (l_p_all_inverses := ?l_p_all_inverses) (c_p_all_inverses := ?c_p_all_inverses) (k_p_all_inverses := ?k_p_all_inverses) (a_is_member := ?a_is_member) (l_is_member := ?l_is_member) (c_is_member := ?c_is_member) (k_is_member := ?k_is_member) (a_need_group := ?a_need_group) (l_need_group := ?l_need_group) (c_need_group := ?c_need_group) (k_need_group := ?k_need_group) (a_is_group_part := ?a_is_group_part) (l_is_group_part := ?l_is_group_part) (c_is_group_part := ?c_is_group_part) (k_is_group_part := ?k_is_group_part) (a_need_part := ?a_need_part) (l_need_part := ?l_need_part) (c_need_part := ?c_need_part) (k_need_part := ?k_need_part) (a_moved_members := ?a_moved_members) (l_moved_members := ?l_moved_members) (c_moved_members := ?c_moved_members) (k_moved_members := ?k_moved_members) (a_need_prime := ?a_need_prime) (l_need_prime := ?l_need_prime) (c_need_prime := ?c_need_prime) (k_need_prime := ?k_need_prime) (a_greater_part := ?a_greater_part) (l_greater_part := ?l_greater_part) (c_greater_part := ?c_greater_part) (k_greater_part := ?k_greater_part) (a_prime_part := ?a_prime_part) (l_prime_part := ?l_prime_part) (c_prime_part := ?c_prime_part) (k_prime_part := ?k_prime_part) (a_normalizer_of := ?a_normalizer_of) (l_normalizer_of := ?l_normalizer_of) (c_normalizer_of := ?c_normalizer_of) (k_normalizer_of := ?k_normalizer_of) (a_centralizer_of := ?a_centralizer_of) (l_centralizer_of := ?l_centralizer_of) (c_centralizer_of := ?c_centralizer_of) (k_centralizer_of := ?k_centralizer_of) (a_primes_of := ?a_primes_of) (l_primes_of := ?l_primes_of) (c_primes_of := ?c_primes_of) (k_primes_of := ?k_primes_of) (a_greatest_power := ?a_greatest_power) (l_greatest_power := ?l_greatest_power) (c_greatest_power := ?c_greatest_power) (k_greatest_power := ?k_greatest_power) (a_is_eight := ?a_is_eight) (l_is_eight := ?l_is_eight) (c_is_eight := ?c_is_eight) (k_is_eight := ?k_is_eight) (a_entry_for := ?a_entry_for) (l_entry_for := ?l_entry_for) (c_entry_for := ?c_entry_for) (k_entry_for := ?k_entry_for) (a_plain_paper := ?a_plain_paper) (l_plain_paper := ?l_plain_paper) (c_plain_paper := ?c_plain_paper) (k_plain_paper := ?k_plain_paper) (a_turns_of_part := ?a_turns_of_part) (l_turns_of_part := ?l_turns_of_part) (c_turns_of_part := ?c_turns_of_part) (k_turns_of_part := ?k_turns_of_part) (a_sizes_for := ?a_sizes_for) (l_sizes_for := ?l_sizes_for) (c_sizes_for := ?c_sizes_for) (k_sizes_for := ?k_sizes_for) (a_chain_of := ?a_chain_of) (l_chain_of := ?l_chain_of) (c_chain_of := ?c_chain_of) (k_chain_of := ?k_chain_of) (a_law_round_moves := ?a_law_round_moves) (l_law_round_moves := ?l_law_round_moves) (c_law_round_moves := ?c_law_round_moves) (k_law_round_moves := ?k_law_round_moves) (a_law_ready_moves := ?a_law_ready_moves) (l_law_ready_moves := ?l_law_ready_moves) (c_law_ready_moves := ?c_law_ready_moves) (k_law_ready_moves := ?k_law_ready_moves) (a_self_settle := ?a_self_settle) (i_self_settle := ?i_self_settle) (l_self_settle := ?l_self_settle) (c_self_settle := ?c_self_settle) (k_self_settle := ?k_self_settle) (a_self_init := ?a_self_init) (i_self_init := ?i_self_init) (l_self_init := ?l_self_init) (c_self_init := ?c_self_init) (k_self_init := ?k_self_init) (a_x_need_group := ?a_x_need_group) (l_x_need_group := ?l_x_need_group) (c_x_need_group := ?c_x_need_group) (k_x_need_group := ?k_x_need_group) (a_bar_members := ?a_bar_members) (l_bar_members := ?l_bar_members) (c_bar_members := ?c_bar_members) (k_bar_members := ?k_bar_members) (a_is_bar := ?a_is_bar) (l_is_bar := ?l_is_bar) (c_is_bar := ?c_is_bar) (k_is_bar := ?k_is_bar) (a_again_paper := ?a_again_paper) (l_again_paper := ?l_again_paper) (c_again_paper := ?c_again_paper) (k_again_paper := ?k_again_paper) (a_is_again_paper := ?a_is_again_paper) (l_is_again_paper := ?l_is_again_paper) (c_is_again_paper := ?c_is_again_paper) (k_is_again_paper := ?k_is_again_paper) (a_made_commuting := ?a_made_commuting) (l_made_commuting := ?l_made_commuting) (c_made_commuting := ?c_made_commuting) (k_made_commuting := ?k_made_commuting) (a_prime_turns := ?a_prime_turns) (l_prime_turns := ?l_prime_turns) (c_prime_turns := ?c_prime_turns) (k_prime_turns := ?k_prime_turns) (a_need_paper := ?a_need_paper) (l_need_paper := ?l_need_paper) (c_need_paper := ?c_need_paper) (k_need_paper := ?k_need_paper) (a_again_step := ?a_again_step) (l_again_step := ?l_again_step) (c_again_step := ?c_again_step) (k_again_step := ?k_again_step) (a_list_again := ?a_list_again) (l_list_again := ?l_list_again) (c_list_again := ?c_list_again) (k_list_again := ?k_list_again) (a_law_dice := ?a_law_dice) (l_law_dice := ?l_law_dice) (c_law_dice := ?c_law_dice) (k_law_dice := ?k_law_dice) (a_law_roll := ?a_law_roll) (l_law_roll := ?l_law_roll) (c_law_roll := ?c_law_roll) (k_law_roll := ?k_law_roll) (a_law_one_of := ?a_law_one_of) (l_law_one_of := ?l_law_one_of) (c_law_one_of := ?c_law_one_of) (k_law_one_of := ?k_law_one_of) (a_law_met := ?a_law_met) (l_law_met := ?l_law_met) (c_law_met := ?c_law_met) (k_law_met := ?k_law_met) (a_law_right := ?a_law_right) (l_law_right := ?l_law_right) (c_law_right := ?c_law_right) (k_law_right := ?k_law_right) (a_law := ?a_law) (l_law := ?l_law) (c_law := ?c_law) (k_law := ?k_law) (xa_Refused := ?xa_Refused) (xi_Refused := ?xi_Refused) (xo_Refused := ?xo_Refused) (xh_Refused := ?xh_Refused) (xs_Refused := ?xs_Refused) (xb_Refused := ?xb_Refused) (xt_Refused := ?xt_Refused) (xk_Refused := ?xk_Refused) (xg_Refused := ?xg_Refused) (xe_Refused := ?xe_Refused) (xn_Refused := ?xn_Refused) (xf_Refused := ?xf_Refused) (xy_Refused := ?xy_Refused) (xc_Refused := ?xc_Refused) (xx_Refused := ?xx_Refused) (l_ini_Refused := ?l_ini_Refused) (c_ini_Refused := ?c_ini_Refused) (k_ini_Refused := ?k_ini_Refused) (xa_InvalidNumber := ?xa_InvalidNumber) (xi_InvalidNumber := ?xi_InvalidNumber) (xo_InvalidNumber := ?xo_InvalidNumber) (xh_InvalidNumber := ?xh_InvalidNumber) (xs_InvalidNumber := ?xs_InvalidNumber) (xb_InvalidNumber := ?xb_InvalidNumber) (xt_InvalidNumber := ?xt_InvalidNumber) (xk_InvalidNumber := ?xk_InvalidNumber) (xg_InvalidNumber := ?xg_InvalidNumber) (xe_InvalidNumber := ?xe_InvalidNumber) (xn_InvalidNumber := ?xn_InvalidNumber) (xf_InvalidNumber := ?xf_InvalidNumber) (xy_InvalidNumber := ?xy_InvalidNumber) (xc_InvalidNumber := ?xc_InvalidNumber) (xx_InvalidNumber := ?xx_InvalidNumber) (l_ini_InvalidNumber := ?l_ini_InvalidNumber) (c_ini_InvalidNumber := ?c_ini_InvalidNumber) (k_ini_InvalidNumber := ?k_ini_InvalidNumber) (pg := ?pg) (hd := ?hd) (po := ?po) (sa := ?sa) (n1 := ?n1) (n2 := ?n2) (n3 := ?n3) (n4 := ?n4) (h2 := ?h2) (h3 := ?h3) (h4 := ?h4) (h5 := ?h5) (kt := ?kt) (aC := ?aC) (mk := ?mk) (kc := ?kc) (y_FIRST_TOO_LONG := ?y_FIRST_TOO_LONG) (y_int := ?y_int) (y_isinstance := ?y_isinstance) (y_bool := ?y_bool) (y_tuple := ?y_tuple) (y_len := ?y_len) (y_range := ?y_range) (y_MAX_SIZE := ?y_MAX_SIZE) (y_sorted := ?y_sorted) (y_MAX_PLACES := ?y_MAX_PLACES) (y_all := ?y_all) (y_set := ?y_set) (y_MOST_MOVES := ?y_MOST_MOVES) (y_PRIMES := ?y_PRIMES) (y_list := ?y_list) (y_lcm := ?y_lcm) (y_str := ?y_str) (y_dict := ?y_dict) (y_enumerate := ?y_enumerate) (y_abs := ?y_abs) (y_repr := ?y_repr) (y_max := ?y_max) (y_min := ?y_min) (kis := ?kis) (kty := ?kty) (y_gcd := ?y_gcd) (xa_InvalidGroup := ?xa_InvalidGroup) (xq_InvalidGroup := ?xq_InvalidGroup) (xk_InvalidGroup := ?xk_InvalidGroup) (xb_InvalidGroup := ?xb_InvalidGroup) (xt_InvalidGroup := ?xt_InvalidGroup) (xc_InvalidGroup := ?xc_InvalidGroup) (sb_InvalidGroup_InvalidGroup := ?sb_InvalidGroup_InvalidGroup) (sb_InvalidGroup_InvalidNumber := ?sb_InvalidGroup_InvalidNumber) (sb_InvalidGroup_Refused := ?sb_InvalidGroup_Refused) (sb_InvalidNumber_InvalidGroup := ?sb_InvalidNumber_InvalidGroup) (sb_InvalidNumber_Refused := ?sb_InvalidNumber_Refused) (sb_Refused_InvalidGroup := ?sb_Refused_InvalidGroup) (sb_Refused_InvalidNumber := ?sb_Refused_InvalidNumber) (k_PRIMES := ?k_PRIMES))
    (case a_is_short => k_is)
    (case l_is_short => k_is)
    (case c_is_short => k_is)
    (case k_is_short => k_is)
    (case a_is_integer => k_is)
    (case l_is_integer => k_is)
    (case c_is_integer => k_is)
    (case k_is_integer => k_is)
    (case a_is_within => k_is)
    (case l_is_within => k_is)
    (case c_is_within => k_is)
    (case k_is_within => k_is)
    (case a_joined => k_is)
    (case l_joined => k_is)
    (case c_joined => k_is)
    (case k_joined => k_is)
    (case a_all_renamings => k_is)
    (case l_all_renamings => k_is)
    (case c_all_renamings => k_is)
    (case k_all_renamings => k_is)
    (case a_power_of => k_is)
    (case l_power_of => k_is)
    (case c_power_of => k_is)
    (case k_power_of => k_is)
    (case a_order_of => k_is)
    (case l_order_of => k_is)
    (case c_order_of => k_is)
    (case k_order_of => k_is)
    (case a_closed_members => k_is)
    (case l_closed_members => k_is)
    (case c_closed_members => k_is)
    (case k_closed_members => k_is)
    (case a_is_renaming => k_is)
    (case l_is_renaming => k_is)
    (case c_is_renaming => k_is)
    (case k_is_renaming => k_is)
    (case a_are_moves => k_is)
    (case l_are_moves => k_is)
    (case c_are_moves => k_is)
    (case k_are_moves => k_is)
    (case a_p_size => k_is)
    (case g_p_size => k_is)
    (case t_p_size => k_is)
    (case e_p_size => k_is)
    (case l_p_size => k_is)
    (case c_p_size => k_is)
    (case k_p_size => k_is)
    (case a_p_moves => k_is)
    (case g_p_moves => k_is)
    (case t_p_moves => k_is)
    (case e_p_moves => k_is)
    (case l_p_moves => k_is)
    (case c_p_moves => k_is)
    (case k_p_moves => k_is)
    (case a_p_all_products => k_is)
    (case g_p_all_products => k_is)
    (case t_p_all_products => k_is)
    (case e_p_all_products => k_is)
    (case l_p_all_products => k_is)
    (case c_p_all_products => k_is)
    (case k_p_all_products => k_is)
    (case a_p_all_inverses => k_is)
    (case g_p_all_inverses => k_is)
    (case t_p_all_inverses => k_is)
    (case e_p_all_inverses => k_is)
    (case l_p_all_inverses => k_is)
    (case c_p_all_inverses => k_is)
    (case k_p_all_inverses => k_is)
    (case a_is_member => k_is)
    (case l_is_member => k_is)
    (case c_is_member => k_is)
    (case k_is_member => k_is)
    (case a_need_group => k_is)
    (case l_need_group => k_is)
    (case c_need_group => k_is)
    (case k_need_group => k_is)
    (case a_is_group_part => k_is)
    (case l_is_group_part => k_is)
    (case c_is_group_part => k_is)
    (case k_is_group_part => k_is)
    (case a_need_part => k_is)
    (case l_need_part => k_is)
    (case c_need_part => k_is)
    (case k_need_part => k_is)
    (case a_moved_members => k_is)
    (case l_moved_members => k_is)
    (case c_moved_members => k_is)
    (case k_moved_members => k_is)
    (case a_need_prime => k_is)
    (case l_need_prime => k_is)
    (case c_need_prime => k_is)
    (case k_need_prime => k_is)
    (case a_greater_part => k_is)
    (case l_greater_part => k_is)
    (case c_greater_part => k_is)
    (case k_greater_part => k_is)
    (case a_prime_part => k_is)
    (case l_prime_part => k_is)
    (case c_prime_part => k_is)
    (case k_prime_part => k_is)
    (case a_normalizer_of => k_is)
    (case l_normalizer_of => k_is)
    (case c_normalizer_of => k_is)
    (case k_normalizer_of => k_is)
    (case a_centralizer_of => k_is)
    (case l_centralizer_of => k_is)
    (case c_centralizer_of => k_is)
    (case k_centralizer_of => k_is)
    (case a_primes_of => k_is)
    (case l_primes_of => k_is)
    (case c_primes_of => k_is)
    (case k_primes_of => k_is)
    (case a_greatest_power => k_is)
    (case l_greatest_power => k_is)
    (case c_greatest_power => k_is)
    (case k_greatest_power => k_is)
    (case a_is_eight => k_is)
    (case l_is_eight => k_is)
    (case c_is_eight => k_is)
    (case k_is_eight => k_is)
    (case a_entry_for => k_is)
    (case l_entry_for => k_is)
    (case c_entry_for => k_is)
    (case k_entry_for => k_is)
    (case a_plain_paper => k_is)
    (case l_plain_paper => k_is)
    (case c_plain_paper => k_is)
    (case k_plain_paper => k_is)
    (case a_turns_of_part => k_is)
    (case l_turns_of_part => k_is)
    (case c_turns_of_part => k_is)
    (case k_turns_of_part => k_is)
    (case a_sizes_for => k_is)
    (case l_sizes_for => k_is)
    (case c_sizes_for => k_is)
    (case k_sizes_for => k_is)
    (case a_chain_of => k_is)
    (case l_chain_of => k_is)
    (case c_chain_of => k_is)
    (case k_chain_of => k_is)
    (case a_law_round_moves => k_is)
    (case l_law_round_moves => k_is)
    (case c_law_round_moves => k_is)
    (case k_law_round_moves => k_is)
    (case a_law_ready_moves => k_is)
    (case l_law_ready_moves => k_is)
    (case c_law_ready_moves => k_is)
    (case k_law_ready_moves => k_is)
    (case a_self_settle => k_is)
    (case i_self_settle => k_is)
    (case l_self_settle => k_is)
    (case c_self_settle => k_is)
    (case k_self_settle => k_is)
    (case a_self_init => k_is)
    (case i_self_init => k_is)
    (case l_self_init => k_is)
    (case c_self_init => k_is)
    (case k_self_init => k_is)
    (case a_x_need_group => k_is)
    (case l_x_need_group => k_is)
    (case c_x_need_group => k_is)
    (case k_x_need_group => k_is)
    (case a_bar_members => k_is)
    (case l_bar_members => k_is)
    (case c_bar_members => k_is)
    (case k_bar_members => k_is)
    (case a_is_bar => k_is)
    (case l_is_bar => k_is)
    (case c_is_bar => k_is)
    (case k_is_bar => k_is)
    (case a_again_paper => k_is)
    (case l_again_paper => k_is)
    (case c_again_paper => k_is)
    (case k_again_paper => k_is)
    (case a_is_again_paper => k_is)
    (case l_is_again_paper => k_is)
    (case c_is_again_paper => k_is)
    (case k_is_again_paper => k_is)
    (case a_made_commuting => k_is)
    (case l_made_commuting => k_is)
    (case c_made_commuting => k_is)
    (case k_made_commuting => k_is)
    (case a_prime_turns => k_is)
    (case l_prime_turns => k_is)
    (case c_prime_turns => k_is)
    (case k_prime_turns => k_is)
    (case a_need_paper => k_is)
    (case l_need_paper => k_is)
    (case c_need_paper => k_is)
    (case k_need_paper => k_is)
    (case a_again_step => k_is)
    (case l_again_step => k_is)
    (case c_again_step => k_is)
    (case k_again_step => k_is)
    (case a_list_again => k_is)
    (case l_list_again => k_is)
    (case c_list_again => k_is)
    (case k_list_again => k_is)
    (case a_law_dice => k_is)
    (case l_law_dice => k_is)
    (case c_law_dice => k_is)
    (case k_law_dice => k_is)
    (case a_law_roll => k_is)
    (case l_law_roll => k_is)
    (case c_law_roll => k_is)
    (case k_law_roll => k_is)
    (case a_law_one_of => k_is)
    (case l_law_one_of => k_is)
    (case c_law_one_of => k_is)
    (case k_law_one_of => k_is)
    (case a_law_met => k_is)
    (case l_law_met => k_is)
    (case c_law_met => k_is)
    (case k_law_met => k_is)
    (case a_law_right => k_is)
    (case l_law_right => k_is)
    (case c_law_right => k_is)
    (case k_law_right => k_is)
    (case a_law => k_is)
    (case l_law => k_is)
    (case c_law => k_is)
    (case k_law => k_is)
    (case xa_Refused => k_is)
    (case xi_Refused => first | kx_is | k_is | k_exc | kernel_rfl)
    (case xo_Refused => first | kx_is | k_is | k_exc | kernel_rfl)
    (case xh_Refused => k_is)
    (case xs_Refused => k_is)
    (case xb_Refused => k_is)
    (case xt_Refused => k_is)
    (case xk_Refused => k_is)
    (case xg_Refused => k_is)
    (case xe_Refused => k_is)
    (case xn_Refused => k_is)
    (case xf_Refused => k_is)
    (case xy_Refused => k_is)
    (case xc_Refused => k_is)
    (case xx_Refused => k_is)
    (case l_ini_Refused => k_is)
    (case c_ini_Refused => k_is)
    (case k_ini_Refused => k_is)
    (case xa_InvalidNumber => k_is)
    (case xi_InvalidNumber => first | kx_is | k_is | k_exc | kernel_rfl)
    (case xo_InvalidNumber => first | kx_is | k_is | k_exc | kernel_rfl)
    (case xh_InvalidNumber => k_is)
    (case xs_InvalidNumber => k_is)
    (case xb_InvalidNumber => k_is)
    (case xt_InvalidNumber => k_is)
    (case xk_InvalidNumber => k_is)
    (case xg_InvalidNumber => k_is)
    (case xe_InvalidNumber => k_is)
    (case xn_InvalidNumber => k_is)
    (case xf_InvalidNumber => k_is)
    (case xy_InvalidNumber => k_is)
    (case xc_InvalidNumber => k_is)
    (case xx_InvalidNumber => k_is)
    (case l_ini_InvalidNumber => k_is)
    (case c_ini_InvalidNumber => k_is)
    (case k_ini_InvalidNumber => k_is)
    (case pg => k_is)
    (case hd => k_is)
    (case po => k_is)
    (case sa => k_is)
    (case n1 => k_is)
    (case n2 => k_is)
    (case n3 => k_is)
    (case n4 => k_is)
    (case h2 => k_is)
    (case h3 => k_is)
    (case h4 => k_is)
    (case h5 => k_is)
    (case kt => exact K77.kit_self)
    (case aC => k_is)
    (case mk => k_is)
    (case kc => k_is)
    (case y_FIRST_TOO_LONG => k_is)
    (case y_int => k_is)
    (case y_isinstance => k_is)
    (case y_bool => k_is)
    (case y_tuple => k_is)
    (case y_len => k_is)
    (case y_range => k_is)
    (case y_MAX_SIZE => k_is)
    (case y_sorted => k_is)
    (case y_MAX_PLACES => k_is)
    (case y_all => k_is)
    (case y_set => k_is)
    (case y_MOST_MOVES => k_is)
    (case y_PRIMES => k_is)
    (case y_list => k_is)
    (case y_lcm => k_is)
    (case y_str => k_is)
    (case y_dict => k_is)
    (case y_enumerate => k_is)
    (case y_abs => k_is)
    (case y_repr => k_is)
    (case y_max => k_is)
    (case y_min => k_is)
    (case kis => k_is)
    (case kty => k_is)
    (case y_gcd => k_is)
    (case xa_InvalidGroup => k_is)
    (case xq_InvalidGroup => first | kx_is | k_is | k_exc | kernel_rfl)
    (case xk_InvalidGroup => k_is)
    (case xb_InvalidGroup => k_is)
    (case xt_InvalidGroup => k_is)
    (case xc_InvalidGroup => k_is)
    (case sb_InvalidGroup_InvalidGroup => first | k_is | kernel_rfl)
    (case sb_InvalidGroup_InvalidNumber => first | k_is | kernel_rfl)
    (case sb_InvalidGroup_Refused => first | k_is | kernel_rfl)
    (case sb_InvalidNumber_InvalidGroup => first | k_is | kernel_rfl)
    (case sb_InvalidNumber_Refused => first | k_is | kernel_rfl)
    (case sb_Refused_InvalidGroup => first | k_is | kernel_rfl)
    (case sb_Refused_InvalidNumber => first | k_is | kernel_rfl)
    (case k_PRIMES => refine' K77.ktup_of ?lp ?sz ?vv; (case lp => k_is); (case sz => decide); (case vv => repeat (first | exact .nil | refine .cons ⟨_, rfl⟩ ?_)))
    refine' K77.law_at (l := PySem.Challenge.rw_groupsover_k77_errors_of_what_comes_agai) KX G hmg ?qa ⟨PySem.W.codeHd_of_K KX ?h1, TY _ ?m1⟩ ?n1 (fun s u => .of_eq rfl) A
    (case qa => k_is)
    (case h1 => kernel_rfl)
    (case m1 => simp)
    (case n1 => kernel_rfl)
