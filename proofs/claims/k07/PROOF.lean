import PyProof.Rows.All
import Wide.All
import OpenK.AllK
import Wide.FinOn
import HandS.ForMost
import HandS.ForExc
import HandS.More
import HandS.TupAny
import HandS.TupLe
import HandS.IsInst
import HandS.DictComp
import KE.KTryBack
import PyProof.ReprRoads
import HandS.Zip
import HandS.Iter
import PyProof.Rows.ChunkEnd
import HandS.WideBits
import KE.KBits
import KE.IntBitsLaws
import PySem.Challenge.RW_stripestack_k07_numbers_and_levels
set_option Elab.async false
set_option linter.all false
set_option maxRecDepth 100000
set_option maxHeartbeats 4000000
namespace Dd
open PySem L2

/-! # 1. Plain data and what it stands for -/
inductive D where
  | non
  | bl (b : Bool)
  | int (i : Int)
  | str (x : Str)
  | tup (xs : List D)
  | kt (xs : List D)
  | ref (i : Nat)
  | frz (ns : List Int)
  | wd (kvs : List (Str × D))
  deriving Inhabited

/-- an object of the logical heap -/
inductive Ob where
  | lst (xs : List D)
  | dk (kvs : List (Key × D))
  | dt (kvs : List (List Key × D))
  deriving Inhabited

abbrev DH := List Ob
abbrev DE := List (Option D)

section
variable (K : PySem.W.Frag) (w : World)
/-- a written tuple -/
def KTup (a : Addr) (vs : List V) : Prop :=
  ∃ (o : Obj) (its : Array Value) (n : Nat), K.lookup a = some o ∧ o.cls = .type "tuple" ∧ o.data = .seq its n ∧ its.size ≤ sizeLine ∧ Vals vs its.toList
mutual
def RelK : D → V → Prop
  | .non, v => v = .non
  | .bl b, v => v = .bl b
  | .int i, v => v = .int i
  | .str x, v => v = .str x
  | .kt xs, v => ∃ a vs, v = .ref a ∧ KTup K a vs ∧ RelKs xs vs
  | _, _ => False
def RelKs : List D → List V → Prop
  | [], vs => vs = []
  | d :: ds, vs => ∃ v vs', vs = v :: vs' ∧ RelK d v ∧ RelKs ds vs'
end
/-- what a written dict gives at a key -/
def WdAt (a : Addr) (z : Str) : Option D → Prop
  | some d => ∃ u0 v0, PySem.W.nsIn K a z = some (some u0) ∧ RelV v0 u0 ∧ RelK K d v0
  | none => PySem.W.nsIn K a z = some none
def RelW (kvs : List (Str × D)) (v : V) : Prop := ∃ a es n, v = .ref a ∧ KDict K w a es n ∧ ∀ z, WdAt K a z (kvs.lookup z)
/-- a list that nobody writes -/
def FrzL (H : Hp) (a : Addr) (xs : List V) : Prop := (∃ o, H a = some (.frz o (.lst xs))) ∨
  ∃ (o : Obj) (its : Array Value) (n : Nat), K.lookup a = some o ∧ o.cls = .type "list" ∧ o.dict = none ∧ o.data = .seq its n ∧ its.size ≤ sizeLine ∧ Vals xs its.toList
variable (m : List Addr) (H : Hp)
mutual
def RelD : D → V → Prop
  | .non, v => v = .non
  | .bl b, v => v = .bl b
  | .int i, v => v = .int i
  | .str x, v => v = .str x
  | .tup xs, v => ∃ a vs, v = .ref a ∧ H a = some (.tup vs) ∧ RelDs xs vs
  | .kt xs, v => ∃ a vs, v = .ref a ∧ KTup K a vs ∧ RelKs K xs vs
  | .ref i, v => ∃ a, m[i]? = some a ∧ v = .ref a
  | .frz ns, v => ∃ a, v = .ref a ∧ FrzL K H a (ns.map V.int)
  | .wd kvs, v => RelW K w kvs v
def RelDs : List D → List V → Prop
  | [], vs => vs = []
  | d :: ds, vs => ∃ v vs', vs = v :: vs' ∧ RelD d v ∧ RelDs ds vs'
end
def RelKV {κ : Type} : List (κ × D) → List (κ × V) → Prop
  | [], vs => vs = []
  | p :: ps, vs => ∃ v vs', vs = (p.1, v) :: vs' ∧ RelD K w m H p.2 v ∧ RelKV ps vs'
def RelOb : Ob → HO → Prop
  | .lst ds, o => ∃ vs, o = .lst vs ∧ RelDs K w m H ds vs
  | .dk kvs, o => ∃ vs, o = .dK vs ∧ RelKV K w m H kvs vs
  | .dt kvs, o => ∃ vs, o = .dT vs ∧ RelKV K w m H kvs vs
end

/-- what never changes once it is tracked -/
def Imm : HO → Bool
  | .tup _ => true
  | .frz _ _ => true
  | .xd _ => true
  | _ => false
structure Ext (m : List Addr) (H : Hp) (m' : List Addr) (H' : Hp) : Prop where
  pre : ∃ more, m' = m ++ more
  imm : ∀ b o, Imm o = true → H b = some o → H' b = some o
theorem Ext.refl (m : List Addr) (H : Hp) : Ext m H m H := ⟨⟨[], (List.append_nil m).symm⟩, fun _ _ _ h => h⟩
theorem Ext.trans {m m1 m2 : List Addr} {H H1 H2 : Hp} (a : Ext m H m1 H1) (b : Ext m1 H1 m2 H2) : Ext m H m2 H2 := by
  obtain ⟨x, ex⟩ := a.pre
  obtain ⟨y, ey⟩ := b.pre
  exact ⟨⟨x ++ y, by rw [ey, ex, List.append_assoc]⟩, fun c o i h => b.imm c o i (a.imm c o i h)⟩
theorem Ext.ix {m m' : List Addr} {H H' : Hp} (e : Ext m H m' H') {i : Nat} {a : Addr} (h : m[i]? = some a) : m'[i]? = some a := by
  obtain ⟨x, ex⟩ := e.pre
  have hi := (List.getElem?_eq_some_iff.mp h).1
  rw [ex, List.getElem?_append_left hi, h]
theorem Ext.upd_new {m : List Addr} {H : Hp} {p : Addr} {o : HO} (h : H p = none) : Ext m H m (upd H p o) :=
  ⟨⟨[], (List.append_nil m).symm⟩, fun b u _ e => by rw [upd_ne (ne_of_none e h)]; exact e⟩
theorem Ext.more {m : List Addr} {H H' : Hp} (e : Ext m H m H') (p : Addr) : Ext m H (m ++ [p]) H' := ⟨⟨[p], rfl⟩, e.imm⟩

section
variable {K : PySem.W.Frag} {w : World} {m m' : List Addr} {H H' : Hp}
theorem FrzL.ext (e : Ext m H m' H') {a : Addr} {xs : List V} (h : FrzL K H a xs) : FrzL K H' a xs := by
  rcases h with ⟨o, h⟩ | h
  · exact .inl ⟨o, e.imm a _ rfl h⟩
  · exact .inr h
theorem FrzL.sq {a : Addr} {xs : List V} (h : FrzL K H a xs) : SqL K H a xs := by
  rcases h with ⟨o, h⟩ | h
  · exact .inl (.inr ⟨o, h⟩)
  · exact .inr h
theorem KTup.sq {a : Addr} {xs : List V} (h : KTup K a xs) : SqT K H a xs := .inr h
mutual
theorem RelD.ext (e : Ext m H m' H') : ∀ (d : D) (v : V), RelD K w m H d v → RelD K w m' H' d v
  | .non, _, h => h
  | .bl _, _, h => h
  | .int _, _, h => h
  | .str _, _, h => h
  | .tup xs, _, h => by
    obtain ⟨a, vs, e1, h1, h2⟩ := h
    exact ⟨a, vs, e1, e.imm a _ rfl h1, RelDs.ext e xs vs h2⟩
  | .kt _, _, h => h
  | .ref i, _, h => by
    obtain ⟨a, h1, h2⟩ := h
    exact ⟨a, e.ix h1, h2⟩
  | .frz _, _, h => by
    obtain ⟨a, h1, h2⟩ := h
    exact ⟨a, h1, h2.ext e⟩
  | .wd _, _, h => h
theorem RelDs.ext (e : Ext m H m' H') : ∀ (ds : List D) (vs : List V), RelDs K w m H ds vs → RelDs K w m' H' ds vs
  | [], _, h => h
  | d :: ds, _, h => by
    obtain ⟨v, vs', e1, h1, h2⟩ := h
    exact ⟨v, vs', e1, RelD.ext e d v h1, RelDs.ext e ds vs' h2⟩
end
theorem RelKV.ext {κ : Type} (e : Ext m H m' H') : ∀ (ds : List (κ × D)) (vs : List (κ × V)), RelKV K w m H ds vs → RelKV K w m' H' ds vs
  | [], _, h => h
  | d :: ds, _, h => by
    obtain ⟨v, vs', e1, h1, h2⟩ := h
    exact ⟨v, vs', e1, RelD.ext e _ v h1, RelKV.ext e ds vs' h2⟩
theorem RelOb.ext (e : Ext m H m' H') {ob : Ob} {o : HO} (h : RelOb K w m H ob o) : RelOb K w m' H' ob o := by
  cases ob with
  | lst ds => obtain ⟨vs, e1, h1⟩ := h; exact ⟨vs, e1, RelDs.ext e _ _ h1⟩
  | dk ds => obtain ⟨vs, e1, h1⟩ := h; exact ⟨vs, e1, RelKV.ext e _ _ h1⟩
  | dt ds => obtain ⟨vs, e1, h1⟩ := h; exact ⟨vs, e1, RelKV.ext e _ _ h1⟩
theorem RelOb.mut {ob : Ob} {o : HO} (h : RelOb K w m H ob o) : Imm o = false := by
  cases ob with
  | lst ds => obtain ⟨vs, e1, h1⟩ := h; rw [e1]; rfl
  | dk ds => obtain ⟨vs, e1, h1⟩ := h; rw [e1]; rfl
  | dt ds => obtain ⟨vs, e1, h1⟩ := h; rw [e1]; rfl
theorem RelDs.length : ∀ {ds : List D} {vs : List V}, RelDs K w m H ds vs → vs.length = ds.length
  | [], _, h => by rw [show _ = [] from h]; rfl
  | d :: ds, _, h => by
    obtain ⟨v, vs', e1, h1, h2⟩ := h
    rw [e1, List.length_cons, List.length_cons, RelDs.length h2]
theorem RelDs.get : ∀ {ds : List D} {vs : List V} {i : Nat} {d : D}, RelDs K w m H ds vs → ds[i]? = some d → ∃ v, vs[i]? = some v ∧ RelD K w m H d v
  | [], _, _, _, _, e => by simp at e
  | d :: ds, _, 0, _, h, e => by
    obtain ⟨v, vs', e1, h1, h2⟩ := h
    simp at e; subst e; subst e1
    exact ⟨v, rfl, h1⟩
  | d :: ds, _, i + 1, x, h, e => by
    obtain ⟨v, vs', e1, h1, h2⟩ := h
    subst e1
    obtain ⟨u, g1, g2⟩ := RelDs.get (i := i) (d := x) h2 (by simpa using e)
    exact ⟨u, by simpa using g1, g2⟩
theorem RelDs.append : ∀ {ds es : List D} {vs us : List V}, RelDs K w m H ds vs → RelDs K w m H es us → RelDs K w m H (ds ++ es) (vs ++ us)
  | [], _, _, _, h, g => by rw [show _ = [] from h]; exact g
  | d :: ds, es, _, us, h, g => by
    obtain ⟨v, vs', e1, h1, h2⟩ := h
    subst e1
    exact ⟨v, vs' ++ us, rfl, h1, RelDs.append h2 g⟩
theorem RelDs.take : ∀ {ds : List D} {vs : List V} (n : Nat), RelDs K w m H ds vs → RelDs K w m H (ds.take n) (vs.take n)
  | _, _, 0, _ => by rw [List.take_zero, List.take_zero]; exact rfl
  | [], _, n + 1, h => by rw [show _ = [] from h]; rfl
  | d :: ds, _, n + 1, h => by
    obtain ⟨v, vs', e1, h1, h2⟩ := h
    subst e1
    exact ⟨v, vs'.take n, rfl, h1, RelDs.take n h2⟩
theorem RelDs.drop : ∀ {ds : List D} {vs : List V} (n : Nat), RelDs K w m H ds vs → RelDs K w m H (ds.drop n) (vs.drop n)
  | _, _, 0, h => h
  | [], _, n + 1, h => by rw [show _ = [] from h]; rfl
  | d :: ds, _, n + 1, h => by
    obtain ⟨v, vs', e1, h1, h2⟩ := h
    subst e1
    exact RelDs.drop n h2
theorem RelDs.set : ∀ {ds : List D} {vs : List V} (i : Nat) {d : D} {v : V}, RelDs K w m H ds vs → RelD K w m H d v → RelDs K w m H (ds.set i d) (vs.set i v)
  | [], _, _, _, _, h, _ => by rw [show _ = [] from h]; rfl
  | x :: ds, _, 0, d, v, h, g => by
    obtain ⟨u, vs', e1, h1, h2⟩ := h
    subst e1
    exact ⟨v, vs', rfl, g, h2⟩
  | x :: ds, _, i + 1, d, v, h, g => by
    obtain ⟨u, vs', e1, h1, h2⟩ := h
    subst e1
    exact ⟨u, vs'.set i v, rfl, h1, RelDs.set i h2 g⟩
theorem RelDs.one {d : D} {v : V} (h : RelD K w m H d v) : RelDs K w m H [d] [v] := ⟨v, [], rfl, h, rfl⟩
theorem RelDs.nil : RelDs K w m H [] [] := rfl
theorem RelDs.cons {d : D} {v : V} {ds : List D} {vs : List V} (h : RelD K w m H d v) (g : RelDs K w m H ds vs) : RelDs K w m H (d :: ds) (v :: vs) := ⟨v, vs, rfl, h, g⟩
theorem RelDs.nil_iff {ds : List D} {vs : List V} (h : RelDs K w m H ds vs) : vs = [] ↔ ds = [] := by
  have := h.length
  constructor
  · intro e; subst e; exact List.length_eq_zero_iff.mp this.symm
  · intro e; subst e; exact List.length_eq_zero_iff.mp this
mutual
theorem RelK.relD : ∀ (d : D) (v : V), RelK K d v → RelD K w m H d v
  | .non, _, h => h
  | .bl _, _, h => h
  | .int _, _, h => h
  | .str _, _, h => h
  | .tup _, _, h => h.elim
  | .kt _, _, h => h
  | .ref _, _, h => h.elim
  | .frz _, _, h => h.elim
  | .wd _, _, h => h.elim
theorem RelKs.relDs : ∀ (ds : List D) (vs : List V), RelKs K ds vs → RelDs K w m H ds vs
  | [], _, h => h
  | d :: ds, _, h => by
    obtain ⟨v, vs', e1, h1, h2⟩ := h
    exact ⟨v, vs', e1, RelK.relD d v h1, RelKs.relDs ds vs' h2⟩
end
end

/-! # 2. The logical heap is held -/
structure RH (K : PySem.W.Frag) (w : World) (m : List Addr) (h : DH) (H : Hp) : Prop where
  nd : m.Nodup
  len : m.length = h.length
  at_ : ∀ (i : Nat) (ob : Ob), h[i]? = some ob → ∃ a o, m[i]? = some a ∧ H a = some o ∧ RelOb K w m H ob o
section
variable {K : PySem.W.Frag} {w : World} {m m' : List Addr} {h : DH} {H H' : Hp}
theorem RH.get (r : RH K w m h H) {i : Nat} {a : Addr} {ob : Ob} (e : m[i]? = some a) (g : h[i]? = some ob) : ∃ o, H a = some o ∧ RelOb K w m H ob o := by
  obtain ⟨a', o, e1, e2, e3⟩ := r.at_ i ob g
  rw [e] at e1; cases e1
  exact ⟨o, e2, e3⟩
theorem RH.mem (r : RH K w m h H) {a : Addr} (e : a ∈ m) : ∃ o, H a = some o := by
  obtain ⟨i, hi, e⟩ := List.getElem_of_mem e
  have : i < h.length := by rw [← r.len]; exact hi
  obtain ⟨a', o, e1, e2, e3⟩ := r.at_ i h[i] (List.getElem?_eq_getElem this)
  rw [List.getElem?_eq_getElem hi] at e1
  cases e1
  rw [e] at e2
  exact ⟨o, e2⟩
/-- a new object of ours -/
theorem RH.alloc (r : RH K w m h H) {p : Addr} {ob : Ob} {o : HO} (hp : H p = none) (g : RelOb K w m H ob o) : RH K w (m ++ [p]) (h ++ [ob]) (upd H p o) ∧ Ext m H (m ++ [p]) (upd H p o) := by
  have e : Ext m H (m ++ [p]) (upd H p o) := (Ext.upd_new hp).more p
  have np : p ∉ m := fun z => by
    obtain ⟨o', e⟩ := r.mem z
    rw [hp] at e; cases e
  refine ⟨⟨?_, by rw [List.length_append, List.length_append, r.len]; rfl, fun i ob' hi => ?_⟩, e⟩
  · refine List.nodup_append.mpr ⟨r.nd, by simp, ?_⟩
    intro a ha b hb
    rw [List.mem_singleton] at hb
    subst hb
    exact fun z => np (z ▸ ha)
  · by_cases hlt : i < h.length
    · rw [List.getElem?_append_left hlt] at hi
      obtain ⟨a, o', e1, e2, e3⟩ := r.at_ i ob' hi
      refine ⟨a, o', e.ix e1, ?_, e3.ext e⟩
      rw [upd_ne (ne_of_none e2 hp)]
      exact e2
    · rw [List.getElem?_append_right (by omega)] at hi
      have hi0 : i - h.length = 0 := by
        have := (List.getElem?_eq_some_iff.mp hi).1
        simp at this
        omega
      rw [hi0] at hi
      cases hi
      refine ⟨p, o, ?_, upd_same, g.ext e⟩
      rw [List.getElem?_append_right (by rw [r.len]; omega), r.len, hi0]
      rfl
/-- a new object that never changes -/
theorem RH.imm (r : RH K w m h H) {p : Addr} {o : HO} (hp : H p = none) : RH K w m h (upd H p o) ∧ Ext m H m (upd H p o) := by
  have e : Ext m H m (upd H p o) := Ext.upd_new hp
  refine ⟨⟨r.nd, r.len, fun i ob hi => ?_⟩, e⟩
  obtain ⟨a, o', e1, e2, e3⟩ := r.at_ i ob hi
  exact ⟨a, o', e1, by rw [upd_ne (ne_of_none e2 hp)]; exact e2, e3.ext e⟩
/-- an object of ours changes -/
theorem RH.write (r : RH K w m h H) {i : Nat} {a : Addr} {ob : Ob} {o : HO} (ha : m[i]? = some a) (g : RelOb K w m H ob o) : RH K w m (h.set i ob) (upd H a o) ∧ Ext m H m (upd H a o) := by
  have hi : i < h.length := by rw [← r.len]; exact (List.getElem?_eq_some_iff.mp ha).1
  obtain ⟨o0, e0, g0⟩ := r.get ha (List.getElem?_eq_getElem hi)
  have e : Ext m H m (upd H a o) := ⟨⟨[], (List.append_nil m).symm⟩, fun b u im hb => by
    by_cases z : b = a
    · subst z
      rw [e0] at hb; cases hb
      rw [g0.mut] at im; cases im
    · rw [upd_ne z]; exact hb⟩
  refine ⟨⟨r.nd, by rw [List.length_set]; exact r.len, fun j ob' hj => ?_⟩, e⟩
  by_cases z : j = i
  · subst z
    rw [List.getElem?_set_self hi] at hj
    cases hj
    exact ⟨a, o, ha, upd_same, g.ext e⟩
  · rw [List.getElem?_set_ne (fun q => z q.symm)] at hj
    obtain ⟨a', o', e1, e2, e3⟩ := r.at_ j ob' hj
    refine ⟨a', o', e1, ?_, e3.ext e⟩
    have hne : a' ≠ a := fun q => by
      subst q
      obtain ⟨hj1, g1⟩ := List.getElem?_eq_some_iff.mp e1
      obtain ⟨hi1, g2⟩ := List.getElem?_eq_some_iff.mp ha
      exact z ((List.getElem_inj r.nd).mp (g1.trans g2.symm))
    rw [upd_ne hne]
    exact e2
end
end Dd

set_option Elab.async false
set_option linter.all false
set_option maxRecDepth 100000
set_option maxHeartbeats 4000000
namespace Dd
open PySem L2

/-! # 3. What the program does to plain data -/
inductive Rs (α : Type) where
  | ok (a : α)
  | ex (c : Nat) (p : D)
inductive Fl where
  | next | brk | cont | ret (d : D) | ex (c : Nat) (p : D)
/-- an expression; a statement -/
abbrev M (α : Type) := DE → DH → Option (Rs α × DH)
abbrev MS := DE → DH → Option (Fl × DE × DH)
abbrev Call := Nat → List D → DH → Option (Rs D × DH)

section
variable {α β : Type}
def stuck : M α := fun _ _ => none
def ret (a : α) : M α := fun _ h => some (.ok a, h)
def bnd (m : M α) (k : α → M β) : M β := fun e h =>
  match m e h with
  | none => none
  | some (.ex c p, h1) => some (.ex c p, h1)
  | some (.ok a, h1) => k a e h1
/-- an operation on the heap alone -/
def lift (f : DH → Option (α × DH)) : M α := fun _ h => match f h with | some (a, h1) => some (.ok a, h1) | none => none
def var (i : Nat) : M D := fun e h => match e[i]? with | some (some d) => some (.ok d, h) | _ => none
end
def op1 (f : D → DH → Option (D × DH)) (a : M D) : M D := bnd a fun x => lift (f x)
def op2 (f : D → D → DH → Option (D × DH)) (a b : M D) : M D := bnd a fun x => bnd b fun y => lift (f x y)
def args : List (M D) → M (List D)
  | [] => ret []
  | m :: r => bnd m fun x => bnd (args r) fun xs => ret (x :: xs)
def opN (f : List D → DH → Option (D × DH)) (as : List (M D)) : M D := bnd (args as) fun xs => lift (f xs)
def callM (F : Call) (i : Nat) (as : List (M D)) : M D := bnd (args as) fun xs => fun _ h => F i xs h
/-- tests -/
def tst (m : M D) : M Bool := bnd m fun x => match x with | .bl b => ret b | _ => stuck
def tru (f : D → DH → Option Bool) (m : M D) : M Bool := bnd m fun x => lift fun h => (f x h).map fun b => (b, h)
def notT (t : M Bool) : M Bool := bnd t fun b => ret (!b)
def andT (t u : M Bool) : M Bool := bnd t fun b => if b then u else ret false
def orT (t u : M Bool) : M Bool := bnd t fun b => if b then ret true else u
def notV (m : M D) : M D := bnd m fun x => match x with | .bl b => ret (.bl (!b)) | _ => stuck
def andV (m n : M D) : M D := bnd m fun x => match x with | .bl b => if b then n else ret (.bl false) | _ => stuck
def orV (m n : M D) : M D := bnd m fun x => match x with | .bl b => if b then ret (.bl true) else n | _ => stuck
def iteM (t : M Bool) (a b : M D) : M D := bnd t fun c => if c then a else b
def chn (f g : D → D → DH → Option (D × DH)) (a b c : M D) : M D := bnd a fun x => bnd b fun y => bnd (lift (f x y)) fun z =>
  match z with | .bl k => if k then bnd c fun u => lift (g y u) else ret (.bl false) | _ => stuck

/-! ### operations -/
abbrev Z : Nat := 16777216
def lstAt (h : DH) (i : Nat) : Option (List D) := match h[i]? with | some (.lst xs) => some xs | _ => none
def newOb (o : Ob) (h : DH) : Option (D × DH) := some (.ref h.length, h ++ [o])
def pureO (d : Option D) (h : DH) : Option (D × DH) := d.map fun x => (x, h)
def addD : D → D → DH → Option (D × DH)
  | .int i, .int j, h => some (.int (i + j), h)
  | .str x, .str y, h => if x.length + y.length ≤ Z then some (.str (x ++ y), h) else none
  | .tup xs, .tup ys, h => if xs.length + ys.length ≤ Z then some (.tup (xs ++ ys), h) else none
  | .ref i, .ref j, h => match lstAt h i, lstAt h j with
    | some xs, some ys => if xs.length + ys.length ≤ Z then newOb (.lst (xs ++ ys)) h else none
    | _, _ => none
  | _, _, _ => none
def subD : D → D → DH → Option (D × DH)
  | .int i, .int j, h => some (.int (i - j), h)
  | _, _, _ => none
/-- (kept so that an unknown number stops the reckoning at once) -/
def below (i : Int) (m : Nat) : Bool := Nat.blt i.natAbs m
theorem below_iff {i : Int} {m : Nat} : below i m = true ↔ -(m : Int) < i ∧ i < m := by
  unfold below
  rw [Nat.blt_eq]
  omega
def leI : Int → Int → Bool
  | .ofNat a, .ofNat b => Nat.ble a b
  | .negSucc a, .negSucc b => Nat.ble b a
  | .negSucc _, .ofNat _ => true
  | .ofNat _, .negSucc _ => false
theorem leI_eq (i j : Int) : leI i j = decide (i ≤ j) := by
  apply Bool.eq_iff_iff.mpr
  rw [decide_eq_true_eq]
  cases i with
  | ofNat a => cases j with
    | ofNat b =>
      show Nat.ble a b = true ↔ ((a : Nat) : Int) ≤ ((b : Nat) : Int)
      rw [Nat.ble_eq]
      omega
    | negSucc b =>
      show false = true ↔ ((a : Nat) : Int) ≤ Int.negSucc b
      constructor
      · intro z; cases z
      · intro z; omega
  | negSucc a => cases j with
    | ofNat b =>
      show true = true ↔ Int.negSucc a ≤ ((b : Nat) : Int)
      constructor
      · intro _; omega
      · intro _; rfl
    | negSucc b =>
      show Nat.ble b a = true ↔ _
      rw [Nat.ble_eq]
      omega
def ltI (i j : Int) : Bool := !leI j i
theorem ltI_eq (i j : Int) : ltI i j = decide (i < j) := by
  unfold ltI
  rw [leI_eq]
  apply Bool.eq_iff_iff.mpr
  rw [Bool.not_eq_true', decide_eq_false_iff_not, decide_eq_true_eq]
  omega
def smallI (i : Int) : Bool := below i 18446744073709551616
def mulD : D → D → DH → Option (D × DH)
  | .int i, .int j, h => if smallI i || smallI j then some (.int (i * j), h) else none
  | .ref l, .int k, h => match lstAt h l with
    | some xs => if below k 9223372036854775808 = true ∧ xs.length * k.toNat ≤ Z then newOb (.lst (List.replicate k.toNat xs).flatten) h else none
    | none => none
  | .str x, .int k, h => if below k 1000001 = true ∧ x.length ≤ 1000000 ∧ x.length * k.toNat ≤ 1000000 then some (.str (PySem.Txt.mul x k), h) else none
  | _, _, _ => none
def fdivD : D → D → DH → Option (D × DH)
  | .int i, .int j, h => if 0 < j ∧ below j 1073741824 = true then some (.int (i / j), h) else none
  | _, _, _ => none
def modD : D → D → DH → Option (D × DH)
  | .int i, .int j, h => if 0 < j then some (.int (i % j), h) else none
  | _, _, _ => none
def andD : D → D → DH → Option (D × DH)
  | .int i, .int j, h => some (.int (PySem.Builtin.bitAnd i j), h)
  | _, _, _ => none
def orD : D → D → DH → Option (D × DH)
  | .int i, .int j, h => some (.int (PySem.Builtin.bitOr i j), h)
  | _, _, _ => none
def shrI (i j : Int) : Int := i / 2 ^ j.toNat
def shlI (i j : Int) : Int := i * 2 ^ j.toNat
def shlD : D → D → DH → Option (D × DH)
  | .int i, .int j, h => if leI 0 j && below j 1000001 && smallI i then some (.int (shlI i j), h) else none
  | _, _, _ => none
def shrD : D → D → DH → Option (D × DH)
  | .int i, .int j, h => if leI 0 j then some (.int (shrI i j), h) else none
  | _, _, _ => none
def bitsD : D → DH → Option (D × DH)
  | .int i, h => some (.int (PySem.Builtin.Int.intBits i : Nat), h)
  | _, _ => none
def negD : D → DH → Option (D × DH)
  | .int i, h => some (.int (-i), h)
  | _, _ => none
def binD : PySem.Operator → Option (D → D → DH → Option (D × DH))
  | .Add => some addD
  | .Sub => some subD
  | .Mult => some mulD
  | .FloorDiv => some fdivD
  | .Mod => some modD
  | .BitAnd => some andD
  | .BitOr => some orD
  | .LShift => some shlD
  | .RShift => some shrD
  | _ => none

/-- as the library's data; the number bounds how deep lists are followed -/
def toPy (h : DH) : Nat → D → Option PyData
  | 0, _ => none
  | n + 1, d => match d with
    | .non => some .none
    | .bl b => some (.bool b)
    | .int i => some (.int i)
    | .str x => some (.str x)
    | .tup xs => (xs.mapM (toPy h n)).map .tuple
    | .kt xs => (xs.mapM (toPy h n)).map .tuple
    | .ref i => match h[i]? with
      | some (.lst xs) => (xs.mapM (toPy h n)).map .list
      | _ => none
    | .frz ns => some (.list (ns.map .int))
    | .wd _ => none
def scalD : D → D → Option Bool
  | .non, .non => some true
  | .non, .int _ => some false | .int _, .non => some false | .non, .bl _ => some false | .bl _, .non => some false | .non, .str _ => some false | .str _, .non => some false
  | .int i, .int j => some (decide (i = j))
  | .bl i, .bl j => some (decide (i = j))
  | .str i, .str j => some (decide (i = j))
  | .int _, .str _ => some false | .str _, .int _ => some false | .bl _, .str _ => some false | .str _, .bl _ => some false
  | _, _ => none
def eqB (a b : D) (h : DH) : Option Bool := match scalD a b with
  | some r => some r
  | none => match toPy h 20 a, toPy h 20 b with
    | some x, some y => if SeqAt.shaped x && SeqAt.shaped y then some (PyData.eqv x y) else none
    | _, _ => none
def eqD (a b : D) (h : DH) : Option (D × DH) := (eqB a b h).map fun r => (.bl r, h)
def neD (a b : D) (h : DH) : Option (D × DH) := (eqB a b h).map fun r => (.bl (!r), h)
def ltD : D → D → DH → Option (D × DH)
  | .int i, .int j, h => some (.bl (ltI i j), h)
  | .str i, .str j, h => some (.bl (decide (i.cps.toList < j.cps.toList)), h)
  | _, _, _ => none
def leD : D → D → DH → Option (D × DH)
  | .int i, .int j, h => some (.bl (leI i j), h)
  | .str i, .str j, h => some (.bl (!decide (j.cps.toList < i.cps.toList)), h)
  | _, _, _ => none
def gtD : D → D → DH → Option (D × DH)
  | .int i, .int j, h => some (.bl (ltI j i), h)
  | .str i, .str j, h => some (.bl (decide (j.cps.toList < i.cps.toList)), h)
  | _, _, _ => none
def geD : D → D → DH → Option (D × DH)
  | .int i, .int j, h => some (.bl (leI j i), h)
  | .str i, .str j, h => some (.bl (!decide (i.cps.toList < j.cps.toList)), h)
  | _, _, _ => none
def isNonD : D → Bool
  | .non => true
  | _ => false
def isD : D → D → DH → Option (D × DH)
  | x, .non, h => some (.bl (isNonD x), h)
  | .bl a, .bl b, h => some (.bl (decide (a = b)), h)
  | _, _, _ => none
def isNotD (a b : D) (h : DH) : Option (D × DH) := match isD a b h with | some (.bl r, h1) => some (.bl (!r), h1) | _ => none
def keyD : D → Option Key
  | .int i => some (.inl i)
  | .str x => some (.inr x)
  | _ => none
def keysD (xs : List D) : Option (List Key) := xs.mapM keyD
def lookD {κ : Type} [DecidableEq κ] (kvs : List (κ × D)) (k : κ) : Option D := (kvs.find? fun p => decide (p.1 = k)).map (·.2)
def putD {κ : Type} [DecidableEq κ] (kvs : List (κ × D)) (k : κ) (v : D) : List (κ × D) :=
  if (kvs.any fun p => decide (p.1 = k)) then kvs.map fun p => if p.1 = k then (p.1, v) else p else kvs ++ [(k, v)]
/-- what a dict has at a key; none: no dict, or no such keys -/
def dGet (d k : D) (h : DH) : Option (Option D) := match d with
  | .ref i => match h[i]?, k with
    | some (.dk kvs), k => (keyD k).map (lookD kvs)
    | some (.dt kvs), .tup ks => (keysD ks).map (lookD kvs)
    | _, _ => none
  | .wd kvs => match k with
    | .str x => some (kvs.lookup x)
    | _ => none
  | _ => none
def flatD : D → Bool
  | .non => true | .bl _ => true | .int _ => true | .str _ => true
  | _ => false
def anyEq (x : D) (h : DH) : List D → Option Bool
  | [] => some false
  | y :: r => match scalD y x with
    | some a => (anyEq x h r).map (a || ·)
    | none => none
def inB (x d : D) (h : DH) : Option Bool := match d with
  | .str z => match x with
    | .str c => if c.length = 1 then some (decide (c.cps.getD 0 0 ∈ z.cps.toList)) else none
    | _ => none
  | .tup xs => if flatD x && xs.all flatD then anyEq x h xs else none
  | .kt xs => if flatD x && xs.all flatD then anyEq x h xs else none
  | .ref i => match h[i]? with
    | some (.lst xs) => if flatD x && xs.all flatD then anyEq x h xs else none
    | some _ => (dGet d x h).map Option.isSome
    | none => none
  | .wd _ => (dGet d x h).map Option.isSome
  | _ => none
def inD (x d : D) (h : DH) : Option (D × DH) := (inB x d h).map fun r => (.bl r, h)
def notInD (x d : D) (h : DH) : Option (D × DH) := (inB x d h).map fun r => (.bl (!r), h)
def cmpD : PySem.CmpOp → Option (D → D → DH → Option (D × DH))
  | .Eq => some eqD
  | .NotEq => some neD
  | .Lt => some ltD
  | .LtE => some leD
  | .Gt => some gtD
  | .GtE => some geD
  | .Is => some isD
  | .IsNot => some isNotD
  | .In => some inD
  | .NotIn => some notInD
/-- order alone: what may stand in a chain -/
def ordD : PySem.CmpOp → Option (D → D → DH → Option (D × DH))
  | .Lt => some ltD
  | .LtE => some leD
  | .Gt => some gtD
  | .GtE => some geD
  | _ => none
def truD (x : D) (h : DH) : Option Bool := match x with
  | .non => some false
  | .bl b => some b
  | .int i => some (i != 0)
  | .tup xs => some (!xs.isEmpty)
  | .kt xs => some (!xs.isEmpty)
  | .ref i => match h[i]? with
    | some (.lst xs) => some (!xs.isEmpty)
    | some (.dk xs) => some (!xs.isEmpty)
    | _ => none
  | _ => none
def strAt (x : Str) (i : Int) : Option Nat := if x.length ≤ Z then L2.atI x.cps.toList i else none
def ixD (a b : D) (h : DH) : Option (D × DH) := match a, b with
  | .tup xs, .int i => pureO (L2.atI xs i) h
  | .kt xs, .int i => pureO (L2.atI xs i) h
  | .frz ns, .int i => pureO ((L2.atI ns i).map D.int) h
  | .str x, .int i => pureO ((strAt x i).map fun c => .str ⟨#[c]⟩) h
  | .ref i, k => match h[i]? with
    | some (.lst xs) => match k with
      | .int j => pureO (L2.atI xs j) h
      | _ => none
    | some _ => match dGet a k h with
      | some (some d) => some (d, h)
      | _ => none
    | none => none
  | .wd _, k => match dGet a k h with
    | some (some d) => some (d, h)
    | _ => none
  | _, _ => none
def sIxN (n d : Nat) : Option Int → Nat := HT.sIx n d
def cutD {α : Type} (xs : List α) (lo hi : Option Int) : List α := (xs.drop (HT.sIx xs.length 0 lo)).take (HT.sIx xs.length xs.length hi - HT.sIx xs.length 0 lo)
def sliceD (a : D) (lo hi : Option Int) (h : DH) : Option (D × DH) := match a with
  | .tup xs => some (.tup (cutD xs lo hi), h)
  | .ref i => match lstAt h i with
    | some xs => newOb (.lst (cutD xs lo hi)) h
    | none => none
  | _ => none
def tyName (d : D) (h : DH) : Option String := match d with
  | .non => some "NoneType"
  | .bl _ => some "bool"
  | .int _ => some "int"
  | .str _ => some "str"
  | .tup _ => some "tuple"
  | .kt _ => some "tuple"
  | .frz _ => some "list"
  | .wd _ => some "dict"
  | .ref i => match h[i]? with
    | some (.lst _) => some "list"
    | some (.dk _) => some "dict"
    | some (.dt _) => some "dict"
    | none => none
def isTy (T n : String) : Bool := n == T || (n == "bool" && T == "int")
def isinD (T : String) (d : D) (h : DH) : Option (D × DH) := (tyName d h).map fun n => (.bl (isTy T n), h)
def typNames : List (Str × String) := [("tuple", "tuple"), ("str", "str"), ("int", "int"), ("bool", "bool"), ("list", "list"), ("dict", "dict")]

inductive Blt where
  | len | abs | int | str | tuple | list | all | any | ord | repr | min | max
  deriving DecidableEq
def blts : List (Str × Blt) := [("len", .len), ("abs", .abs), ("int", .int), ("str", .str), ("tuple", .tuple), ("list", .list), ("all", .all), ("any", .any), ("ord", .ord), ("repr", .repr), ("min", .min), ("max", .max)]
def bools : List D → Option (List Bool)
  | [] => some []
  | .bl b :: r => (bools r).map (b :: ·)
  | _ => none
def intsD : List D → Option (List Int)
  | [] => some []
  | .int i :: r => (intsD r).map (i :: ·)
  | _ => none
def maxL : List Int → Int
  | [] => 0
  | x :: r => r.foldl (fun a b => if ltI a b then b else a) x
def reprOk (x : PyData) : Bool := x.showable && !x.hasDict && decide (x.depth ≤ 60) && decide (x.shown.length + 64 ≤ Z)
def bltD (b : Blt) (xs : List D) (h : DH) : Option (D × DH) := match b, xs with
  | .len, [.str x] => if x.length ≤ Z then some (.int x.length, h) else none
  | .len, [.tup ds] => some (.int ds.length, h)
  | .len, [.kt ds] => some (.int ds.length, h)
  | .len, [.frz ns] => some (.int ns.length, h)
  | .len, [.ref i] => match h[i]? with
    | some (.lst ds) => some (.int ds.length, h)
    | some (.dk ds) => some (.int ds.length, h)
    | _ => none
  | .abs, [.int i] => some (.int (if i < 0 then -i else i), h)
  | .int, [.int i] => some (.int i, h)
  | .int, [.bl k] => some (.int (if k then 1 else 0), h)
  | .str, [.int i] => if i.natAbs.log2 < 1920 then some (.str (toString i), h) else none
  | .tuple, [.ref i] => match lstAt h i with
    | some ds => some (.tup ds, h)
    | none => none
  | .tuple, [.tup ds] => some (.tup ds, h)
  | .list, [.ref i] => match lstAt h i with
    | some ds => newOb (.lst ds) h
    | none => none
  | .list, [.tup ds] => newOb (.lst ds) h
  | .list, [.frz ns] => newOb (.lst (ns.map .int)) h
  | .all, [.ref i] => match lstAt h i with
    | some ds => (bools ds).map fun bs => (.bl (bs.all id), h)
    | none => none
  | .any, [.ref i] => match lstAt h i with
    | some ds => (bools ds).map fun bs => (.bl (bs.any id), h)
    | none => none
  | .ord, [.str x] => if x.length = 1 then some (.int (x.cps.getD 0 0 : Nat), h) else none
  | .repr, [.tup ds] => match toPy h 20 (.tup ds) with
    | some x => if reprOk x then some (.str x.shown, h) else none
    | none => none
  | .repr, [.ref i] => match toPy h 20 (.ref i) with
    | some x => if reprOk x then some (.str x.shown, h) else none
    | none => none
  | .min, [.int i, .int j] => some (.int (if j < i then j else i), h)
  | .max, [.int i, .int j] => some (.int (if j > i then j else i), h)
  | .max, [.ref i] => match lstAt h i with
    | some ds => match intsD ds with
      | some (x :: r) => some (.int (maxL (x :: r)), h)
      | _ => none
    | none => none
  | _, _ => none
/-- built-ins that ask a calm frame -/
def needsCalm : Blt → Bool
  | .all => true | .any => true | .min => true | .max => true
  | _ => false

inductive Mth where
  | append | extend | pop | join
  deriving DecidableEq
def mths : List (Str × Mth) := [("append", .append), ("extend", .extend), ("pop", .pop), ("join", .join)]
def txts : List D → Option (List Str)
  | [] => some []
  | .str x :: r => (txts r).map (x :: ·)
  | _ => none
def joinLen (a : Str) (ys : List Str) : Nat := (ys.map fun y => y.length).sum + ys.length * a.length
def mthD (m : Mth) (o : D) (xs : List D) (h : DH) : Option (D × DH) := match m, o, xs with
  | .append, .ref i, [d] => match lstAt h i with
    | some ds => if ds.length < Z then some (.non, h.set i (.lst (ds ++ [d]))) else none
    | none => none
  | .extend, .ref i, [.ref j] => match lstAt h i, lstAt h j with
    | some xs, some ys => if xs.length + ys.length ≤ Z then some (.non, h.set i (.lst (xs ++ ys))) else none
    | _, _ => none
  | .pop, .ref i, [] => match lstAt h i with
    | some ds => match ds.getLast? with
      | some d => some (d, h.set i (.lst ds.dropLast))
      | none => none
    | none => none
  | .join, .str a, [.ref i] => match lstAt h i with
    | some ds => match txts ds with
      | some ys => if joinLen a ys ≤ Z then some (.str (PySem.Str.join a ys), h) else none
      | none => none
    | none => none
  | _, _, _ => none
/-- what is walked by a for -/
inductive Src where
  | items (xs : List D)
  | live (i n : Nat)
def Src.len : Src → Nat
  | .items xs => xs.length
  | .live _ n => n
def Src.at_ (s : Src) (k : Nat) (h : DH) : Option D := match s with
  | .items xs => xs[k]?
  | .live i n => match lstAt h i with
    | some xs => if xs.length = n then xs[k]? else none
    | none => none
def Src.done (s : Src) (h : DH) : Bool := match s with
  | .items _ => true
  | .live i n => match lstAt h i with
    | some xs => decide (xs.length = n)
    | none => false
def signs (x : Str) : List D := x.cps.toList.map fun c => .str ⟨#[c]⟩
def srcD (d : D) (h : DH) : Option (Src × DH) := match d with
  | .tup xs => some (.items xs, h)
  | .kt xs => some (.items xs, h)
  | .str x => some (.items (signs x), h)
  | .frz ns => some (.items (ns.map .int), h)
  | .ref i => (lstAt h i).map fun xs => (.live i xs.length, h)
  | _ => none
def rngs (lo : Int) (n : Nat) : Src := .items ((List.range n).map fun k => .int (lo + (k : Nat)))
def in62 (i : Int) : Bool := below i 4611686018427387904
def rng1 : D → DH → Option (Src × DH)
  | .int j, h => if in62 j then some (rngs 0 j.toNat, h) else none
  | _, _ => none
def rng2 : D → D → DH → Option (Src × DH)
  | .int i, .int j, h => if in62 i && in62 j then some (rngs i (j - i).toNat, h) else none
  | _, _, _ => none
def rngsC (c : Int) (n : Nat) : Src := .items ((List.range n).map fun k => .int ((k : Nat) * c))
/-- range(0, j, c) -/
def rng3 : D → D → D → DH → Option (Src × DH)
  | .int i, .int j, .int c, h => if leI 0 i && leI i 0 && leI 0 j && in62 j && leI 1 c && below c 1073741824 then some (rngsC c ((j + c - 1) / c).toNat, h) else none
  | _, _, _, _ => none
/-- zip of two: pairs as far as both go -/
def zipD (a b : D) (h : DH) : Option (Src × DH) := match a, b with
  | .tup xs, .tup ys => some (.items ((xs.zip ys).map fun p => .tup [p.1, p.2]), h)
  | _, _ => none
/-- targets -/
inductive Tg where
  | nm (i : Nat)
  | tp (is : List Nat)
def setAll : List Nat → List D → DE → Option DE
  | [], [], e => some e
  | i :: is, d :: ds, e => setAll is ds (e.set i (some d))
  | _, _, _ => none
def unpk (d : D) (h : DH) : Option (List D) := match d with
  | .tup xs => some xs
  | .kt xs => some xs
  | .ref i => lstAt h i
  | _ => none
def Tg.put (t : Tg) (d : D) (h : DH) (e : DE) : Option DE := match t with
  | .nm i => some (e.set i (some d))
  | .tp is => match unpk d h with
    | some ds => setAll is ds e
    | none => none
def wipeE (e : DE) : List Nat → DE
  | [] => e
  | v :: vs => (wipeE e vs).set v none
/-! ### comprehensions: the list stands at id while it grows -/
def lcLoop (s : Src) (t : Tg) (c : M Bool) (m : M D) (id : Nat) (e : DE) : Nat → Nat → DH → Option DH
  | 0, _, h => if s.done h then some h else none
  | r + 1, k, h => match s.at_ k h with
    | none => none
    | some d => match t.put d h e with
      | none => none
      | some e1 => match c e1 h with
        | some (.ok true, h1) => match m e1 h1 with
          | some (.ok x, h2) => match lstAt h2 id with
            | some acc => if acc.length < Z then lcLoop s t c m id e r (k + 1) (h2.set id (.lst (acc ++ [x]))) else none
            | none => none
          | _ => none
        | some (.ok false, h1) => lcLoop s t c m id e r (k + 1) h1
        | _ => none
def lcM (vs : List Nat) (it : M Src) (t : Tg) (c : M Bool) (m : M D) : M D := bnd it fun s => fun e h =>
  (lcLoop s t c m h.length (wipeE e vs) s.len 0 (h ++ [.lst []])).map fun h1 => (.ok (.ref h.length), h1)
/-- {k: v for ..}: keys tuples -/
def dcLoop (s : Src) (t : Tg) (mk mv : M D) (id : Nat) (e : DE) : Nat → Nat → DH → Option DH
  | 0, _, h => if s.done h then some h else none
  | r + 1, k, h => match s.at_ k h with
    | none => none
    | some d => match t.put d h e with
      | none => none
      | some e1 => match mk e1 h with
        | some (.ok (.tup ks), h1) => match mv e1 h1 with
          | some (.ok x, h2) => match keysD ks, h2[id]? with
            | some kk, some (.dt kvs) => if kvs.length < Z then dcLoop s t mk mv id e r (k + 1) (h2.set id (.dt (putD kvs kk x))) else none
            | _, _ => none
          | _ => none
        | _ => none
def dcM (vs : List Nat) (it : M Src) (t : Tg) (mk mv : M D) : M D := bnd it fun s => fun e h =>
  (dcLoop s t mk mv h.length (wipeE e vs) s.len 0 (h ++ [.dt []])).map fun h1 => (.ok (.ref h.length), h1)
/-- {k: v, ..} written out, keys texts or ints -/
def dispL : List (M D × M D) → M (List (D × D))
  | [] => ret []
  | p :: r => bnd p.1 fun k => bnd p.2 fun v => bnd (dispL r) fun rs => ret ((k, v) :: rs)
def dispKV (ps : List (D × D)) : Option (List (Key × D)) := ps.mapM fun p => (keyD p.1).map fun k => (k, p.2)
def dispM (ps : List (M D × M D)) : M D := fun e h =>
  match dispL ps e (h ++ [.dk []]) with
  | some (.ok kvs, h1) => match h1[h.length]?, dispKV kvs with
    | some (.dk []), some l => if l.length ≤ 15 then some (.ok (.ref h.length), h1.set h.length (.dk (l.foldl (fun acc kv => putD acc kv.1 kv.2) []))) else none
    | _, _ => none
  | _ => none

/-! ### statements -/
def skip : MS := fun e h => some (.next, e, h)
def stuckS : MS := fun _ _ => none
def seq (a b : MS) : MS := fun e h =>
  match a e h with
  | some (.next, e1, h1) => b e1 h1
  | r => r
def withM {α : Type} (m : M α) (k : α → MS) : MS := fun e h =>
  match m e h with
  | none => none
  | some (.ex c p, h1) => some (.ex c p, e, h1)
  | some (.ok a, h1) => k a e h1
def drop (m : M D) : MS := withM m fun _ => skip
def retS (m : M D) : MS := withM m fun d => fun e h => some (.ret d, e, h)
def asg (t : Tg) (m : M D) : MS := withM m fun d => fun e h => (t.put d h e).map fun e1 => (.next, e1, h)
def ifS (t : M Bool) (a b : MS) : MS := withM t fun c => if c then a else b
def raiS (c : Nat) (m : M D) : MS := withM m fun p => fun e h => some (.ex c p, e, h)
def putAt (o k v : D) (h : DH) : Option DH := match o with
  | .ref i => match h[i]?, k with
    | some (.lst xs), .int j => match L2.ixN xs.length j with
      | some n => some (h.set i (.lst (xs.set n v)))
      | none => none
    | some (.dk kvs), k => match keyD k with
      | some kk => if kvs.length < Z then some (h.set i (.dk (putD kvs kk v))) else none
      | none => none
    | some (.dt kvs), .tup ks => match keysD ks with
      | some kk => if kvs.length < Z then some (h.set i (.dt (putD kvs kk v))) else none
      | none => none
    | _, _ => none
  | _ => none
def setS (o k m : M D) : MS := withM m fun v => withM o fun x => withM k fun y => fun e h => (putAt x y v h).map fun h1 => (.next, e, h1)
def augS (f : D → D → DH → Option (D × DH)) (i : Nat) (m : M D) : MS := withM (var i) fun x => withM m fun y => withM (lift (f x y)) fun z => fun e h => some (.next, e.set i (some z), h)
def forL (s : Src) (t : Tg) (b : MS) : Nat → Nat → MS
  | 0, _ => fun e h => if s.done h then some (.next, e, h) else none
  | r + 1, k => fun e h => match s.at_ k h with
    | none => none
    | some d => match t.put d h e with
      | none => none
      | some e1 => match b e1 h with
        | some (.next, e2, h2) => forL s t b r (k + 1) e2 h2
        | some (.cont, e2, h2) => forL s t b r (k + 1) e2 h2
        | some (.brk, e2, h2) => some (.next, e2, h2)
        | r => r
def forS (it : M Src) (t : Tg) (b : MS) : MS := withM it fun s => forL s t b s.len 0
def whileL (t : M Bool) (b : MS) : Nat → MS
  | 0 => stuckS
  | r + 1 => withM t fun c => if c then fun e h => match b e h with
      | some (.next, e2, h2) => whileL t b r e2 h2
      | some (.cont, e2, h2) => whileL t b r e2 h2
      | some (.brk, e2, h2) => some (.next, e2, h2)
      | r => r
    else skip
def noEx (r : Option (Fl × DE × DH)) : Option (Fl × DE × DH) := match r with
  | some (.ex _ _, _, _) => none
  | r => r
def tryS (b : MS) (c : Nat) (i : Option Nat) (s : MS) : MS := fun e h =>
  match b e h with
  | some (.ex c' p, e1, h1) => if c' = c then
      match i with
      | some i => match noEx (s (e1.set i (some p)) h1) with
        | some (f, e2, h2) => some (f, e2.set i none, h2)
        | none => none
      | none => noEx (s e1 h1)
    else none
  | r => r
end Dd

set_option Elab.async false
set_option linter.all false
set_option maxRecDepth 100000
set_option maxHeartbeats 4000000
namespace Dd
open PySem L2

/-! # 4. From the text to what it does -/
structure CE where
  N : List Str
  sc : Scope
  own : Bool
  blk : List (Str × NameKind)
  calm : Bool
  hk : Option (Nat × Nat)
  fns : List (Str × Nat)
  con : List (Str × D)
  exc : List (Str × Str)
def ixOf (x : Str) : List Str → Option Nat
  | [] => none
  | y :: r => if x = y then some 0 else (ixOf x r).map (· + 1)
def fnIx (x : Str) : List (Str × Nat) → Nat → Option (Nat × Nat)
  | [], _ => none
  | (y, a) :: r, k => if x = y then some (k, a) else fnIx x r (k + 1)
def exIx (x : Str) : List (Str × Str) → Nat → Option Nat
  | [], _ => none
  | (y, _) :: r, k => if x = y then some k else exIx x r (k + 1)
def plainNm (x : Str) : Bool := !(x == ("__debug__" : Str)) && !(x == ("__classdict__" : Str)) && !(x == ("__name__" : Str))
def visIx (C : CE) (x : Str) : Option Nat :=
  if plainNm x then
    match C.sc.names.lookup x with
    | some .local => ixOf x C.N
    | some .cell => ixOf x C.N
    | some .free => ixOf x C.N
    | _ => none
  else none
def glb (C : CE) (x : Str) : Bool := plainNm x && decide (C.sc.names.lookup x = some .globalImplicit)
/-- a name that may be stored -/
def locIx (C : CE) (x : Str) : Option Nat :=
  match C.sc.names.lookup x with
  | some .local => ixOf x C.N
  | some .cell => if C.own || decide (C.blk.lookup x = some .cell) then ixOf x C.N else none
  | _ => none
def isHk (C : CE) (i : Nat) : Bool := match C.hk with | some (j, _) => decide (i = j) | none => false
def bltNms : List Str := (blts.map (·.1)) ++ typNames.map (·.1) ++ (["isinstance", "range", "enumerate", "zip", "reversed", "sorted", "ValueError"] : List Str)
def noStar : Expr → Bool
  | .Starred _ _ => false
  | _ => true
def isComp : Expr → Bool
  | .ListComp _ _ _ _ => true
  | .SetComp _ _ _ _ => true
  | .DictComp _ _ _ _ _ => true
  | _ => false
def isSetE : Expr → Bool
  | .Set _ _ _ => true
  | _ => false
def callOf : Expr → Option (Str × List Expr)
  | .Call (.Name f _) as [] _ => some (f, as)
  | _ => none
def isTupE : Expr → Bool
  | .Tuple _ _ _ => true
  | _ => false
def isSl : Expr → Bool
  | .Slice _ _ _ _ => true
  | _ => false
/-- a test that is no value's truth -/
def isTst : Expr → Bool
  | .UnaryOp .Not _ _ => true
  | .BoolOp _ _ _ => true
  | .IfExp _ _ _ _ => true
  | .Compare _ _ _ _ => true
  | _ => false
def baseOk : Expr → Bool
  | .Call (.Name _ _) [] [] _ => false
  | _ => true
/-- the block's own names with their slots -/
def ownOf (N : List Str) (sc : Scope) : List (Str × Nat) := sc.names.filterMap fun y => match y.2 with
  | .local => (ixOf y.1 N).map fun i => (y.1, i)
  | .cell => (ixOf y.1 N).map fun i => (y.1, i)
  | _ => none
def CE.inBlk (C : CE) (sc : Scope) : CE := { C with sc := relS sc C.sc, own := false, blk := sc.names }
def nmIx (C : CE) : Expr → Option Nat
  | .Name x _ => match locIx C x with
    | some i => if isHk C i then none else some i
    | none => none
  | _ => none
def nmsIx (C : CE) : List Expr → Option (List Nat)
  | [] => some []
  | e :: r => match nmIx C e, nmsIx C r with
    | some i, some is => some (i :: is)
    | _, _ => none
def tgOf (C : CE) : Expr → Option Tg
  | .Name x p => (nmIx C (.Name x p)).map .nm
  | .Tuple es _ _ => if C.calm then (nmsIx C es).map .tp else none
  | _ => none
def Tg.ixs : Tg → List Nat
  | .nm i => [i]
  | .tp is => is
def mthOk (m : Mth) (x : D) (h : DH) : Bool := match m, x with
  | .join, .str _ => true
  | .join, _ => false
  | _, .ref i => (lstAt h i).isSome
  | _, _ => false
def mthM (m : Mth) (o : M D) (as : List (M D)) : M D := bnd o fun x => bnd (lift fun h => if mthOk m x h then some ((), h) else none) fun _ => bnd (args as) fun xs => lift (mthD m x xs)
def sliceM (a : M D) (lo hi : M (Option Int)) : M D := bnd a fun x => bnd lo fun l => bnd hi fun u => lift (sliceD x l u)
def intOf (m : M D) : M (Option Int) := bnd m fun x => match x with | .int i => ret (some i) | _ => stuck
def tupM (xs : List D) (h : DH) : Option (D × DH) := if xs.length ≤ Z then some (.tup xs, h) else none
def lstM (xs : List D) (h : DH) : Option (D × DH) := if xs.length ≤ Z then newOb (.lst xs) h else none
def augI (g : Int → Int → Bool) (f : Int → Int → Int) : D → D → DH → Option (D × DH)
  | .int i, .int j, h => if g i j then some (.int (f i j), h) else none
  | _, _, _ => none
def augD : PySem.Operator → Option (D → D → DH → Option (D × DH))
  | .Add => some (augI (fun _ _ => true) fun i j => i + j)
  | .Sub => some (augI (fun _ _ => true) fun i j => i - j)
  | .BitOr => some (augI (fun _ _ => true) PySem.Builtin.bitOr)
  | .RShift => some (augI (fun _ j => leI 0 j) shrI)
  | _ => none
def whileFuel : Nat := 1000000

def compT (C : CE) (tg it : Expr) (sc : Scope) : Option Tg :=
  if C.calm && blkC C.N C.sc sc (ownOf C.N sc) && !isSetE it then
    match tgOf (C.inBlk sc) tg with
    | some t => if t.ixs.all fun i => decide (i ∈ (ownOf C.N sc).map (·.2)) then some t else none
    | none => none
  else none
structure Sm where
  E : CE → Expr → M D
  T : CE → Expr → M Bool
  O : CE → Option Expr → M (Option Int)
  I : CE → Expr → Expr → M Src
  S : CE → Stmt → MS
  B : CE → List Stmt → MS

section
variable (F : Call) (Q : Sm)
def callE (C : CE) (f : Str) (as : List Expr) : M D :=
  if as.all noStar && decide (as.length < 30) && glb C f then
    match fnIx f C.fns 0 with
    | some (i, ar) => if C.calm && decide (as.length = ar) && decide (0 < ar) then callM F i (as.map (Q.E C)) else stuck
    | none => if f = "isinstance" then
        match as with
        | [a, .Name T _] => if glb C T then
            match typNames.lookup T with
            | some t => op1 (isinD t) (Q.E C a)
            | none => stuck
          else stuck
        | _ => stuck
      else match blts.lookup f with
        | some b => if (needsCalm b && !C.calm) || as.isEmpty then stuck else opN (bltD b) (as.map (Q.E C))
        | none => stuck
  else stuck
def compE (C : CE) (elt tg it : Expr) (ifs : List Expr) (sc : Scope) : M D := match compT C tg it sc with
  | some t => match ifs with
    | [] => lcM ((ownOf C.N sc).map (·.2)) (Q.I C tg it) t (ret true) (Q.E (C.inBlk sc) elt)
    | [c] => lcM ((ownOf C.N sc).map (·.2)) (Q.I C tg it) t (Q.T (C.inBlk sc) c) (Q.E (C.inBlk sc) elt)
    | _ => stuck
  | none => stuck
def dcompE (C : CE) (k v tg it : Expr) (sc : Scope) : M D := match compT C tg it sc with
  | some t => dcM ((ownOf C.N sc).map (·.2)) (Q.I C tg it) t (Q.E (C.inBlk sc) k) (Q.E (C.inBlk sc) v)
  | none => stuck
def stepE (C : CE) : Expr → M D
  | .Constant (.int i) _ _ => ret (.int i)
  | .Constant (.bool b) _ _ => ret (.bl b)
  | .Constant .none _ _ => ret .non
  | .Constant (.str x) _ _ => ret (.str x)
  | .Name x _ => match visIx C x with
    | some i => if isHk C i then stuck else var i
    | none => if glb C x then
        match C.con.lookup x with
        | some d => ret d
        | none => stuck
      else stuck
  | .BinOp a op b _ => match binD op with
    | some f => op2 f (Q.E C a) (Q.E C b)
    | none => stuck
  | .UnaryOp .USub a _ => op1 negD (Q.E C a)
  | .UnaryOp .Not a _ => notV (Q.E C a)
  | .BoolOp _ [a] _ => Q.E C a
  | .BoolOp .And (a :: b :: r) p => andV (Q.E C a) (Q.E C (.BoolOp .And (b :: r) p))
  | .BoolOp .Or (a :: b :: r) p => orV (Q.E C a) (Q.E C (.BoolOp .Or (b :: r) p))
  | .IfExp t a b _ => iteM (Q.T C t) (Q.E C a) (Q.E C b)
  | .Compare a [op] [b] _ => if isSetE b then stuck else match cmpD op with
    | some f => op2 f (Q.E C a) (Q.E C b)
    | none => stuck
  | .Compare a [op, op'] [b, c] _ => match ordD op, ordD op' with
    | some f, some g => chn f g (Q.E C a) (Q.E C b) (Q.E C c)
    | _, _ => stuck
  | .Tuple es _ _ => if es.all noStar then opN tupM (es.map (Q.E C)) else stuck
  | .List es _ => if es.all noStar then opN lstM (es.map (Q.E C)) else stuck
  | .Dict keys vals _ => if keys.all Option.isSome && decide (keys.length = vals.length) && !keys.isEmpty && decide (keys.length ≤ 15) then
      dispM ((keys.zip vals).map fun p => (match p.1 with | some k => Q.E C k | none => stuck, Q.E C p.2))
    else stuck
  | .Subscript a (.Slice lo hi none _) _ => sliceM (Q.E C a) (Q.O C lo) (Q.O C hi)
  | .Subscript a b _ => if isSl b then stuck else op2 ixD (Q.E C a) (Q.E C b)
  | .Attribute (.Name x _) f _ => match C.hk with
    | some (i, c) => if visIx C x = some i && decide ((C.exc[c]?).map (·.2) = some f) then var i else stuck
    | none => stuck
  | .Call (.Name f _) as [] _ => callE F Q C f as
  | .Call (.Attribute o m ap) as [] p => if (ap.endLine == p.line) && baseOk o && as.all noStar && decide (as.length < 30) then
      match mths.lookup m with
      | some k => if as.isEmpty && !decide (k = .pop) then stuck else mthM k (Q.E C o) (as.map (Q.E C))
      | none => if decide (m = "bit_length") && as.isEmpty then op1 bitsD (Q.E C o) else stuck
    else stuck
  | .ListComp elt [⟨tg, it, ifs, 0⟩] sc _ => compE Q C elt tg it ifs sc
  | .DictComp k v [⟨tg, it, [], 0⟩] sc _ => dcompE Q C k v tg it sc
  | _ => stuck
def stepT (C : CE) : Expr → M Bool
  | .UnaryOp .Not a _ => notT (Q.T C a)
  | .BoolOp _ [a] _ => Q.T C a
  | .BoolOp .And (a :: b :: r) p => andT (Q.T C a) (Q.T C (.BoolOp .And (b :: r) p))
  | .BoolOp .Or (a :: b :: r) p => orT (Q.T C a) (Q.T C (.BoolOp .Or (b :: r) p))
  | .Compare a ops bs p => tst (stepE F Q C (.Compare a ops bs p))
  | e => if isTst e then stuck else tru truD (Q.E C e)
def stepO (C : CE) : Option Expr → M (Option Int)
  | none => ret none
  | some e => intOf (Q.E C e)
def anyI (C : CE) (e : Expr) : M Src := if isSetE e then stuck else bnd (Q.E C e) fun x => lift (srcD x)
def stepI (C : CE) (tg e : Expr) : M Src := match callOf e with
  | some (f, [a]) => if f = "range" then (if glb C f && noStar a then bnd (Q.E C a) fun x => lift (rng1 x) else stuck) else anyI Q C e
  | some (f, [a, b]) => if f = "range" then (if glb C f && noStar a && noStar b then bnd (Q.E C a) fun x => bnd (Q.E C b) fun y => lift (rng2 x y) else stuck)
    else if f = "zip" then (if glb C f && noStar a && noStar b && isTupE tg then bnd (Q.E C a) fun x => bnd (Q.E C b) fun y => lift (zipD x y) else stuck)
    else anyI Q C e
  | some (f, [a, b, c]) => if f = "range" then (if glb C f && noStar a && noStar b && noStar c then bnd (Q.E C a) fun x => bnd (Q.E C b) fun y => bnd (Q.E C c) fun z => lift (rng3 x y z) else stuck) else anyI Q C e
  | _ => anyI Q C e
def tryE (C : CE) (body : List Stmt) (x : Str) (n : Option Str) (su : List Stmt) : MS :=
  if C.calm && C.own && glb C x && !su.isEmpty then
    match exIx x C.exc 0 with
    | some c => match n with
      | some n => match C.sc.names.lookup n, ixOf n C.N with
        | some .local, some i => tryS (Q.B C body) c (some i) (Q.B { C with calm := false, hk := some (i, c) } su)
        | _, _ => stuckS
      | none => tryS (Q.B C body) c none (Q.B { C with calm := false, hk := none } su)
    | none => stuckS
  else stuckS
def stepS (C : CE) : Stmt → MS
  | .Return (some e) _ => retS (Q.E C e)
  | .Return none _ => retS (ret .non)
  | .Pass _ => skip
  | .Break _ => fun e h => some (.brk, e, h)
  | .Continue _ => fun e h => some (.cont, e, h)
  | .Expr (.Constant (.str _) _ _) _ => skip
  | .Expr e _ => if isComp e then stuckS else drop (Q.E C e)
  | .Assign [.Subscript o k _] e _ => if isSl k || isComp e then stuckS else setS (Q.E C o) (Q.E C k) (Q.E C e)
  | .Assign [tg] e _ => match tgOf C tg with
    | some t => if isTupE tg && isTupE e || isComp e && isTupE tg then stuckS else asg t (if isComp e then stepE F Q C e else Q.E C e)
    | none => stuckS
  | .AugAssign (.Name x _) op e _ => match locIx C x, augD op with
    | some i, some f => if isHk C i then stuckS else augS f i (Q.E C e)
    | _, _ => stuckS
  | .If t a b _ => ifS (Q.T C t) (Q.B C a) (Q.B C b)
  | .For tg it b [] _ => if C.calm && !isSetE it then
      match tgOf C tg with
      | some t => forS (Q.I C tg it) t (Q.B C b)
      | none => stuckS
    else stuckS
  | .While t b [] _ => whileL (Q.T C t) (Q.B C b) whileFuel
  | .Raise (some (.Call (.Name x _) [a] [] _)) none _ => if C.calm && C.own && glb C x && noStar a then
      match exIx x C.exc 0 with
      | some c => raiS c (Q.E C a)
      | none => stuckS
    else stuckS
  | .Try b [.ExceptHandler (some (.Name x _)) n su _] [] [] _ => tryE Q C b x n su
  | _ => stuckS
def stepB (C : CE) : List Stmt → MS
  | [] => skip
  | s :: r => seq (Q.S C s) (stepB C r)
def stepQ : Sm := ⟨stepE F Q, stepT F Q, stepO Q, stepI Q, stepS F Q, stepB Q⟩
end
def sem0 : Sm := ⟨fun _ _ => stuck, fun _ _ => stuck, fun _ _ => stuck, fun _ _ _ => stuck, fun _ _ => stuckS, fun _ _ => stuckS⟩
def sem (F : Call) : Nat → Sm
  | 0 => sem0
  | n + 1 => stepQ F (sem F n)

/-! # 5. The program: its defs by number -/
structure Fn where
  name : Str
  ps : List Str
  N : List Str
  sc : Scope
  body : List Stmt
structure Pg where
  fns : List Fn
  con : List (Str × D)
  exc : List (Str × Str)
def Pg.ce (P : Pg) (f : Fn) : CE := ⟨f.N, f.sc, true, [], true, none, P.fns.map fun g => (g.name, g.ps.length), P.con, P.exc⟩
def fuel : Nat := 60
def startD (N : List Str) (ds : List D) : DE := ds.map some ++ List.replicate (N.length - ds.length) none
def Fn.run (f : Fn) (P : Pg) (F : Call) (ds : List D) (h : DH) : Option (Rs D × DH) :=
  if ds.length = f.ps.length then
    match (sem F fuel).B (P.ce f) f.body (startD f.N ds) h with
    | some (.ret d, _, h1) => some (.ok d, h1)
    | some (.next, _, h1) => some (.ok .non, h1)
    | some (.ex c p, _, h1) => some (.ex c p, h1)
    | _ => none
  else none
/-- n calls deep -/
def Pg.run (P : Pg) : Nat → Call
  | 0 => fun _ _ _ => none
  | n + 1 => fun i ds h => match P.fns[i]? with
    | some f => f.run P (P.run n) ds h
    | none => none
end Dd

set_option Elab.async false
set_option linter.all false
set_option maxRecDepth 100000
set_option maxHeartbeats 4000000
namespace Dd
open PySem PySem.Spec PyProof.Rows L2

/-! # 6. The readings -/
structure Pc where
  K : PySem.W.Frag
  w : World
  cls : Nat → Addr
  fld : Nat → Str
  W : WX
  hk : Option (Nat × Addr × Addr × Str)
abbrev Pc.R (G : Pc) (m : List Addr) (H : Hp) : D → V → Prop := RelD G.K G.w m H
abbrev Pc.Rs (G : Pc) (m : List Addr) (H : Hp) : List D → List V → Prop := RelDs G.K G.w m H
abbrev Pc.H (G : Pc) : List Addr → DH → Hp → Prop := RH G.K G.w
def SlotR (G : Pc) (m : List Addr) (H : Hp) (i : Nat) (d : D) (o : Option (Option V)) : Prop :=
  match G.hk with
  | some (j, a, dd, f) => if i = j then o = some (some (.ref a)) ∧ ∃ u, H dd = some (.xd [(f, u)]) ∧ G.R m H d u else ∃ v, o = some (some v) ∧ G.R m H d v
  | none => ∃ v, o = some (some v) ∧ G.R m H d v
structure EnvR (G : Pc) (m : List Addr) (H : Hp) (e : DE) (σ : L2.St) : Prop where
  len : e.length = σ.length
  slot : ∀ (i : Nat) (d : D), e[i]? = some (some d) → SlotR G m H i d σ[i]?
theorem SlotR.ext {G : Pc} {m m' : List Addr} {H H' : Hp} (x : Ext m H m' H') {i : Nat} {d : D} {o : Option (Option V)} (h : SlotR G m H i d o) : SlotR G m' H' i d o := by
  unfold SlotR at h ⊢
  cases hh : G.hk with
  | none =>
    rw [hh] at h
    obtain ⟨v, e1, e2⟩ := h
    exact ⟨v, e1, e2.ext x⟩
  | some q =>
    obtain ⟨j, a, dd, f⟩ := q
    rw [hh] at h
    dsimp only at h ⊢
    by_cases hi : i = j
    · rw [if_pos hi] at h ⊢
      obtain ⟨e1, u, e2, e3⟩ := h
      exact ⟨e1, u, x.imm dd _ rfl e2, e3.ext x⟩
    · rw [if_neg hi] at h ⊢
      obtain ⟨v, e1, e2⟩ := h
      exact ⟨v, e1, e2.ext x⟩
theorem EnvR.ext {G : Pc} {m m' : List Addr} {H H' : Hp} {e : DE} {σ : L2.St} (h : EnvR G m H e σ) (x : Ext m H m' H') : EnvR G m' H' e σ :=
  ⟨h.len, fun i d q => (h.slot i d q).ext x⟩
def notHk (G : Pc) (i : Nat) : Prop := ∀ q, G.hk = some q → i ≠ q.1
theorem EnvR.get {G : Pc} {m : List Addr} {H : Hp} {e : DE} {σ : L2.St} (h : EnvR G m H e σ) {i : Nat} {d : D} (hn : notHk G i) (q : e[i]? = some (some d)) : ∃ v, σ[i]? = some (some v) ∧ G.R m H d v := by
  have z := h.slot i d q
  unfold SlotR at z
  cases hh : G.hk with
  | none => rw [hh] at z; exact z
  | some p =>
    obtain ⟨j, a, dd, f⟩ := p
    rw [hh] at z
    dsimp only at z
    rw [if_neg (hn _ hh)] at z
    exact z
theorem EnvR.set {G : Pc} {m : List Addr} {H : Hp} {e : DE} {σ : L2.St} (h : EnvR G m H e σ) {i : Nat} {d : D} {v : V} (hn : notHk G i) (r : G.R m H d v) : EnvR G m H (e.set i (some d)) (σ.set i (some v)) := by
  refine ⟨by rw [List.length_set, List.length_set]; exact h.len, fun j x q => ?_⟩
  by_cases hj : j = i
  · subst hj
    have hl : j < e.length := by
      have := (List.getElem?_eq_some_iff.mp q).1
      rwa [List.length_set] at this
    rw [List.getElem?_set_self hl] at q
    cases q
    rw [List.getElem?_set_self (by rw [← h.len]; exact hl)]
    unfold SlotR
    cases hh : G.hk with
    | none => exact ⟨v, rfl, r⟩
    | some p =>
      obtain ⟨k, a, dd, f⟩ := p
      dsimp only
      rw [if_neg (hn _ hh)]
      exact ⟨v, rfl, r⟩
  · rw [List.getElem?_set_ne (fun z => hj z.symm)] at q ⊢
    exact h.slot j x q
theorem EnvR.clear {G : Pc} {m : List Addr} {H : Hp} {e : DE} {σ : L2.St} (h : EnvR G m H e σ) (i : Nat) : EnvR G m H (e.set i none) (σ.set i none) := by
  refine ⟨by rw [List.length_set, List.length_set]; exact h.len, fun j x q => ?_⟩
  by_cases hj : j = i
  · subst hj
    have hl : j < e.length := by
      have := (List.getElem?_eq_some_iff.mp q).1
      rwa [List.length_set] at this
    rw [List.getElem?_set_self hl] at q
    cases q
  · rw [List.getElem?_set_ne (fun z => hj z.symm)] at q ⊢
    exact h.slot j x q
theorem EnvR.wipe {G : Pc} {m : List Addr} {H : Hp} {e : DE} {σ : L2.St} (h : EnvR G m H e σ) : ∀ vs : List Nat, EnvR G m H (wipeE e vs) (wipe σ vs)
  | [] => h
  | v :: vs => (EnvR.wipe h vs).clear v

def ExcAt (G : Pc) (m : List Addr) (H : Hp) (c : Nat) (p : D) (cv : Value) (d : Option Addr) : Prop :=
  cv = .ref (G.cls c) ∧ ∃ dd u, d = some dd ∧ H dd = some (.xd [(G.fld c, u)]) ∧ G.R m H p u
section
variable {α β γ : Type}
def Post (G : Pc) (rel : List Addr → Hp → α → β → Prop) (σ : L2.St) (r : Rs α) (m : List Addr) (H : Hp) (Q : β → Hp → Prop) : Prop :=
  match r with
  | .ok a => ∀ b, rel m H a b → Q b H
  | .ex c p => ∀ cv d, ExcAt G m H c p cv d → G.W cv d σ H
def tG (G : Pc) (rel : List Addr → Hp → α → β → Prop) (M : M α) : L2.St → Hp → (β → Hp → Prop) → Prop := fun σ H Q =>
  ∃ m e h r h', G.H m h H ∧ EnvR G m H e σ ∧ M e h = some (r, h') ∧ ∀ m' H', Ext m H m' H' → G.H m' h' H' → Post G rel σ r m' H' Q
/-- values on the way: one, two, three, a list -/
def tA (G : Pc) (cs : List V) (rel : List Addr → Hp → α → β → Prop) (k : List D → M α) : L2.St → Hp → (β → Hp → Prop) → Prop := fun σ H Q =>
  ∃ m e h ds r h', G.H m h H ∧ EnvR G m H e σ ∧ G.Rs m H ds cs ∧ k ds e h = some (r, h') ∧ ∀ m' H', Ext m H m' H' → G.H m' h' H' → Post G rel σ r m' H' Q
def tA1 (G : Pc) (x : V) (rel : List Addr → Hp → α → β → Prop) (k : D → M α) : L2.St → Hp → (β → Hp → Prop) → Prop := fun σ H Q =>
  ∃ m e h a r h', G.H m h H ∧ EnvR G m H e σ ∧ G.R m H a x ∧ k a e h = some (r, h') ∧ ∀ m' H', Ext m H m' H' → G.H m' h' H' → Post G rel σ r m' H' Q
def tA2 (G : Pc) (x y : V) (rel : List Addr → Hp → α → β → Prop) (k : D → D → M α) : L2.St → Hp → (β → Hp → Prop) → Prop := fun σ H Q =>
  ∃ m e h a b r h', G.H m h H ∧ EnvR G m H e σ ∧ G.R m H a x ∧ G.R m H b y ∧ k a b e h = some (r, h') ∧ ∀ m' H', Ext m H m' H' → G.H m' h' H' → Post G rel σ r m' H' Q
def tA3 (G : Pc) (x y z : V) (rel : List Addr → Hp → α → β → Prop) (k : D → D → D → M α) : L2.St → Hp → (β → Hp → Prop) → Prop := fun σ H Q =>
  ∃ m e h a b c r h', G.H m h H ∧ EnvR G m H e σ ∧ G.R m H a x ∧ G.R m H b y ∧ G.R m H c z ∧ k a b c e h = some (r, h') ∧ ∀ m' H', Ext m H m' H' → G.H m' h' H' → Post G rel σ r m' H' Q
variable {G : Pc} {rel : List Addr → Hp → α → β → Prop} {σ : L2.St} {H : Hp} {Q Q' : β → Hp → Prop}
theorem Post.mono {r : Rs α} {m : List Addr} (h : Post G rel σ r m H Q) (q : ∀ b H, Q b H → Q' b H) : Post G rel σ r m H Q' := by
  cases r with
  | ok a => exact fun b hb => q b H (h b hb)
  | ex c p => exact h
theorem tG.mono {M : M α} (h : tG G rel M σ H Q) (q : ∀ b H, Q b H → Q' b H) : tG G rel M σ H Q' := by
  obtain ⟨m, e, hh, r, h', a1, a2, a3, a4⟩ := h
  exact ⟨m, e, hh, r, h', a1, a2, a3, fun m' H' x y => (a4 m' H' x y).mono q⟩
theorem tG_bnd {M : M D} {k : D → Dd.M α} (hyp : tG G rel (bnd M k) σ H Q) : tG G G.R M σ H (fun x H1 => tA1 G x rel k σ H1 Q) := by
  obtain ⟨m, e, h, r, h', a1, a2, a3, a4⟩ := hyp
  dsimp only [bnd] at a3
  cases hm : M e h with
  | none => rw [hm] at a3; cases a3
  | some q =>
    obtain ⟨r1, h1⟩ := q
    rw [hm] at a3
    refine ⟨m, e, h, r1, h1, a1, a2, hm, fun m1 H1 x1 y1 => ?_⟩
    cases r1 with
    | ex c p =>
      cases a3
      exact a4 m1 H1 x1 y1
    | ok a => exact fun b hb => ⟨m1, e, h1, a, r, h', y1, a2.ext x1, hb, a3, fun m2 H2 x2 y2 => a4 m2 H2 (x1.trans x2) y2⟩
theorem tA1_bnd {x : V} {M : M D} {k : D → D → Dd.M α} (hyp : tA1 G x rel (fun a => bnd M (k a)) σ H Q) : tG G G.R M σ H (fun y H1 => tA2 G x y rel k σ H1 Q) := by
  obtain ⟨m, e, h, a, r, h', a1, a2, ra, a3, a4⟩ := hyp
  dsimp only [bnd] at a3
  cases hm : M e h with
  | none => rw [hm] at a3; cases a3
  | some q =>
    obtain ⟨r1, h1⟩ := q
    rw [hm] at a3
    refine ⟨m, e, h, r1, h1, a1, a2, hm, fun m1 H1 x1 y1 => ?_⟩
    cases r1 with
    | ex c p =>
      cases a3
      exact a4 m1 H1 x1 y1
    | ok b => exact fun y hb => ⟨m1, e, h1, a, b, r, h', y1, a2.ext x1, ra.ext x1, hb, a3, fun m2 H2 x2 y2 => a4 m2 H2 (x1.trans x2) y2⟩
theorem tA2_bnd {x y : V} {M : M D} {k : D → D → D → Dd.M α} (hyp : tA2 G x y rel (fun a b => bnd M (k a b)) σ H Q) : tG G G.R M σ H (fun z H1 => tA3 G x y z rel k σ H1 Q) := by
  obtain ⟨m, e, h, a, b, r, h', a1, a2, ra, rb, a3, a4⟩ := hyp
  dsimp only [bnd] at a3
  cases hm : M e h with
  | none => rw [hm] at a3; cases a3
  | some q =>
    obtain ⟨r1, h1⟩ := q
    rw [hm] at a3
    refine ⟨m, e, h, r1, h1, a1, a2, hm, fun m1 H1 x1 y1 => ?_⟩
    cases r1 with
    | ex c p =>
      cases a3
      exact a4 m1 H1 x1 y1
    | ok b' => exact fun y hb => ⟨m1, e, h1, a, b, b', r, h', y1, a2.ext x1, ra.ext x1, rb.ext x1, hb, a3, fun m2 H2 x2 y2 => a4 m2 H2 (x1.trans x2) y2⟩
/-- a test's answer, then -/
def relB : List Addr → Hp → Bool → Bool → Prop := fun _ _ a b => a = b
theorem tG_bndB {M : M Bool} {k : Bool → Dd.M α} (hyp : tG G rel (bnd M k) σ H Q) : tG G relB M σ H (fun b H1 => tG G rel (k b) σ H1 Q) := by
  obtain ⟨m, e, h, r, h', a1, a2, a3, a4⟩ := hyp
  dsimp only [bnd] at a3
  cases hm : M e h with
  | none => rw [hm] at a3; cases a3
  | some q =>
    obtain ⟨r1, h1⟩ := q
    rw [hm] at a3
    refine ⟨m, e, h, r1, h1, a1, a2, hm, fun m1 H1 x1 y1 => ?_⟩
    cases r1 with
    | ex c p =>
      cases a3
      exact a4 m1 H1 x1 y1
    | ok a =>
      intro b hb
      have hb' : a = b := hb
      subst hb'
      exact ⟨m1, e, h1, r, h', y1, a2.ext x1, a3, fun m2 H2 x2 y2 => a4 m2 H2 (x1.trans x2) y2⟩
theorem tG_ret {a : α} (hyp : tG G rel (ret a) σ H Q) : ∃ m e h, G.H m h H ∧ EnvR G m H e σ ∧ ∀ b, rel m H a b → Q b H := by
  obtain ⟨m, e, h, r, h', a1, a2, a3, a4⟩ := hyp
  cases a3
  exact ⟨m, e, h, a1, a2, a4 m H (Ext.refl _ _) a1⟩
theorem tG_stuck (hyp : tG G rel (stuck : M α) σ H Q) : False := by
  obtain ⟨m, e, h, r, h', a1, a2, a3, a4⟩ := hyp
  cases a3
end
theorem PE.of {X : Cx} {e : Expr} {t t' : TE} (h : PE X e t) (w : ∀ σ H Q, t' σ H Q → t σ H Q) : PE X e t' := ⟨fun pins s σ H Q I q => h.run pins s σ H Q I (w σ H Q q)⟩
theorem PT.of {X : Cx} {e : Expr} {t t' : TT} (h : PT X e t) (w : ∀ σ H Q, t' σ H Q → t σ H Q) : PT X e t' := ⟨fun pins s σ H Q I q => h.run pins s σ H Q I (w σ H Q q)⟩
theorem PA.of {X : Cx} {e : List Expr} {t t' : TA} (h : PA X e t) (w : ∀ σ H Q, t' σ H Q → t σ H Q) : PA X e t' := ⟨fun pos pins s σ H Q I q => h.run pos pins s σ H Q I (w σ H Q q)⟩
theorem PS.of {X : Cx} {e : Stmt} {t t' : TS} (h : PS X e t) (w : ∀ D σ H, t' D σ H → t D σ H) : PS X e t' := ⟨fun pins s σ H D I q => h.run pins s σ H D I (w D σ H q)⟩
theorem PSs.of {X : Cx} {e : List Stmt} {t t' : TS} (h : PSs X e t) (w : ∀ D σ H, t' D σ H → t D σ H) : PSs X e t' := ⟨fun pins s σ H D I q => h.run pins s σ H D I (w D σ H q)⟩
theorem PE.never {X : Cx} {e : Expr} {t : TE} (w : ∀ σ H Q, t σ H Q → False) : PE X e t := ⟨fun pins s σ H Q I q => (w σ H Q q).elim⟩
theorem PT.never {X : Cx} {e : Expr} {t : TT} (w : ∀ σ H Q, t σ H Q → False) : PT X e t := ⟨fun pins s σ H Q I q => (w σ H Q q).elim⟩
theorem PS.never {X : Cx} {e : Stmt} {t : TS} (w : ∀ D σ H, t D σ H → False) : PS X e t := ⟨fun pins s σ H D I q => (w D σ H q).elim⟩

/-- operations by values -/
def rD1 (G : Pc) (f : D → DH → Option (D × DH)) : V → Hp → VK → Prop := fun x H Q =>
  ∃ m h a d h', G.H m h H ∧ G.R m H a x ∧ f a h = some (d, h') ∧ ∀ m' H' v, Ext m H m' H' → G.H m' h' H' → G.R m' H' d v → Q v H'
def rD2 (G : Pc) (f : D → D → DH → Option (D × DH)) : R2 := fun x y H Q =>
  ∃ m h a b d h', G.H m h H ∧ G.R m H a x ∧ G.R m H b y ∧ f a b h = some (d, h') ∧ ∀ m' H' v, Ext m H m' H' → G.H m' h' H' → G.R m' H' d v → Q v H'
def rDN (G : Pc) (f : List D → DH → Option (D × DH)) : List V → Hp → VK → Prop := fun xs H Q =>
  ∃ m h as d h', G.H m h H ∧ G.Rs m H as xs ∧ f as h = some (d, h') ∧ ∀ m' H' v, Ext m H m' H' → G.H m' h' H' → G.R m' H' d v → Q v H'
section
variable {G : Pc} {σ : L2.St} {H : Hp} {Q : VK}
theorem lift_some {α : Type} {f : DH → Option (α × DH)} {e : DE} {h h' : DH} {r : Rs α} (q : lift f e h = some (r, h')) : ∃ d, r = .ok d ∧ f h = some (d, h') := by
  unfold lift at q
  cases hf : f h with
  | none => rw [hf] at q; cases q
  | some p => rw [hf] at q; cases q; exact ⟨p.1, rfl, rfl⟩
theorem tA1_op {x : V} {f : D → DH → Option (D × DH)} (hyp : tA1 G x G.R (fun a => lift (f a)) σ H Q) : rD1 G f x H Q := by
  obtain ⟨m, e, h, a, r, h', a1, a2, ra, a3, a4⟩ := hyp
  obtain ⟨d, rfl, e3⟩ := lift_some a3
  exact ⟨m, h, a, d, h', a1, ra, e3, fun m' H' v x y z => a4 m' H' x y v z⟩
theorem tA2_op {x y : V} {f : D → D → DH → Option (D × DH)} (hyp : tA2 G x y G.R (fun a b => lift (f a b)) σ H Q) : rD2 G f x y H Q := by
  obtain ⟨m, e, h, a, b, r, h', a1, a2, ra, rb, a3, a4⟩ := hyp
  obtain ⟨d, rfl, e3⟩ := lift_some a3
  exact ⟨m, h, a, b, d, h', a1, ra, rb, e3, fun m' H' v x y z => a4 m' H' x y v z⟩
/-- an operation's end: the value is told -/
theorem op2_tG {ma mb : M D} {f : D → D → DH → Option (D × DH)} (hyp : tG G G.R (op2 f ma mb) σ H Q) : tOp (rD2 G f) (tG G G.R ma) (tG G G.R mb) σ H Q :=
  (tG_bnd hyp).mono fun x H1 h1 => (tA1_bnd h1).mono fun y H2 h2 => tA2_op h2
theorem op1_tG {ma : M D} {f : D → DH → Option (D × DH)} (hyp : tG G G.R (op1 f ma) σ H Q) : tUn (rD1 G f) (tG G G.R ma) σ H Q :=
  (tG_bnd hyp).mono fun x H1 h1 => tA1_op h1
end
end Dd

set_option Elab.async false
set_option linter.all false
set_option maxRecDepth 100000
set_option maxHeartbeats 4000000
namespace Dd
open PySem PySem.Spec PyProof.Rows L2

/-! # 7. Operators by values -/
theorem leI_iff {i j : Int} : leI i j = true ↔ i ≤ j := by rw [leI_eq, decide_eq_true_eq]
theorem Z_eq : Z = sizeLine := by rw [sizeLine_eq]
section
variable {K : PySem.W.Frag} {w : World} {m : List Addr} {h : DH} {H : Hp}
theorem lstAt_some {h : DH} {i : Nat} {xs : List D} (q : lstAt h i = some xs) : h[i]? = some (.lst xs) := by
  unfold lstAt at q
  split at q
  · rename_i ys e
    cases q
    exact e
  · cases q
theorem ref_lst (r : RH K w m h H) {i : Nat} {x : V} {xs : List D} (rx : RelD K w m H (.ref i) x) (q : lstAt h i = some xs) : ∃ a vs, x = .ref a ∧ m[i]? = some a ∧ H a = some (.lst vs) ∧ RelDs K w m H xs vs := by
  obtain ⟨a, e1, e2⟩ := rx
  obtain ⟨o, e3, vs, e4, e5⟩ := r.get e1 (lstAt_some q)
  subst e4
  exact ⟨a, vs, e2, e1, e3, e5⟩
theorem ix_last {p : Addr} (r : RH K w m h H) : (m ++ [p])[h.length]? = some p := by
  rw [List.getElem?_append_right (by rw [r.len]; exact Nat.le_refl _), r.len, Nat.sub_self]; rfl
/-- a new list, tuple, dict -/
theorem new_lst (r : RH K w m h H) {p : Addr} {ds : List D} {vs : List V} (hp : H p = none) (g : RelDs K w m H ds vs) :
    RH K w (m ++ [p]) (h ++ [.lst ds]) (upd H p (.lst vs)) ∧ Ext m H (m ++ [p]) (upd H p (.lst vs)) ∧ RelD K w (m ++ [p]) (upd H p (.lst vs)) (.ref h.length) (.ref p) := by
  obtain ⟨a, b⟩ := r.alloc (ob := .lst ds) hp ⟨vs, rfl, g⟩
  exact ⟨a, b, p, ix_last r, rfl⟩
theorem new_tup (r : RH K w m h H) {p : Addr} {ds : List D} {vs : List V} (hp : H p = none) (g : RelDs K w m H ds vs) :
    RH K w m h (upd H p (.tup vs)) ∧ Ext m H m (upd H p (.tup vs)) ∧ RelD K w m (upd H p (.tup vs)) (.tup ds) (.ref p) := by
  obtain ⟨a, b⟩ := r.imm (o := .tup vs) hp
  exact ⟨a, b, p, vs, rfl, upd_same, g.ext b⟩
end
theorem pow64 : (2 : Int) ^ 64 = 18446744073709551616 := by decide
theorem smallI_iff {i : Int} (h : smallI i = true) : -(2 ^ 64) < i ∧ i < 2 ^ 64 := by
  have z := below_iff.mp h
  rw [pow64]
  omega
theorem RelDs.flat {K : PySem.W.Frag} {w : World} {m : List Addr} {H : Hp} {ds : List D} {vs : List V} (g : RelDs K w m H ds vs) : ∀ k : Nat, RelDs K w m H (List.replicate k ds).flatten (List.replicate k vs).flatten
  | 0 => rfl
  | k + 1 => by
    rw [List.replicate_succ, List.replicate_succ, List.flatten_cons, List.flatten_cons]
    exact g.append (RelDs.flat g k)
section
variable {X : Cx} {G : Pc} (hK : X.K = G.K) (hw : X.w = G.w)
include hK hw
theorem o_add : OpR X (binaryOp .Add) (rD2 G addD) := by
  obtain ⟨K, W, cls, fld, Wx, hk⟩ := G
  cases hK
  cases hw
  intro pins s σ H x y v u Q I rx ry ⟨m, h, a, b, d, h', a1, ra, rb, e, q⟩
  unfold addD at e
  split at e
  · cases e
    rw [show x = _ from ra] at rx
    rw [show y = _ from rb] at ry
    exact op_add pins s σ H _ _ v u Q I rx ry ⟨_, _, rfl, rfl, q m H _ (Ext.refl _ _) a1 rfl⟩
  · rename_i i j
    split at e
    · rename_i hz
      cases e
      rw [show x = _ from ra] at rx
      rw [show y = _ from rb] at ry
      exact op_add_str pins s σ H _ _ v u Q I rx ry ⟨_, _, rfl, rfl, by rw [← Z_eq]; exact hz, q m H _ (Ext.refl _ _) a1 rfl⟩
    · cases e
  · rename_i xs ys
    split at e
    · rename_i hz
      cases e
      obtain ⟨a, vs, rfl, ha, ga⟩ := ra
      obtain ⟨b, us, rfl, hb, gb⟩ := rb
      refine op_catA pins s σ H _ _ v u Q I rx ry ⟨a, b, vs, us, rfl, rfl, SqT.of ha, SqT.of hb, by rw [ga.length, gb.length, ← Z_eq]; exact hz, fun hx => ?_, fun _ hy => ?_, fun _ _ p hp => ?_⟩
      · have : xs = [] := ga.nil_iff.mp hx
        subst this
        exact q m H _ (Ext.refl _ _) a1 ⟨b, us, rfl, hb, gb⟩
      · have : ys = [] := gb.nil_iff.mp hy
        subst this
        rw [List.append_nil] at q
        exact q m H _ (Ext.refl _ _) a1 ⟨a, vs, rfl, ha, ga⟩
      · obtain ⟨b1, b2, b3⟩ := new_tup a1 hp (ga.append gb)
        exact q m _ _ b2 b1 b3
    · cases e
  · rename_i i j
    split at e
    · rename_i xs ys hx hy
      split at e
      · rename_i hz
        cases e
        obtain ⟨a, vs, rfl, ma, ha, ga⟩ := ref_lst a1 ra hx
        obtain ⟨b, us, rfl, mb, hb, gb⟩ := ref_lst a1 rb hy
        refine op_cat pins s σ H _ _ v u Q I rx ry ⟨a, b, vs, us, rfl, rfl, ha, hb, by rw [ga.length, gb.length, ← Z_eq]; exact hz, fun p hp => ?_⟩
        obtain ⟨b1, b2, b3⟩ := new_lst a1 hp (ga.append gb)
        exact q _ _ _ b2 b1 b3
      · cases e
    · cases e
  · cases e
theorem o_sub : OpR X (binaryOp .Sub) (rD2 G subD) := by
  obtain ⟨K, W, cls, fld, Wx, hk⟩ := G
  cases hK
  cases hw
  intro pins s σ H x y v u Q I rx ry ⟨m, h, a, b, d, h', a1, ra, rb, e, q⟩
  unfold subD at e
  split at e
  · cases e
    rw [show x = _ from ra] at rx
    rw [show y = _ from rb] at ry
    exact op_sub pins s σ H _ _ v u Q I rx ry ⟨_, _, rfl, rfl, q m H _ (Ext.refl _ _) a1 rfl⟩
  · cases e
theorem o_mul : OpR X (binaryOp .Mult) (rD2 G mulD) := by
  obtain ⟨K, W, cls, fld, Wx, hk⟩ := G
  cases hK
  cases hw
  intro pins s σ H x y v u Q I rx ry ⟨m, h, a, b, d, h', a1, ra, rb, e, q⟩
  unfold mulD at e
  split at e
  · split at e
    · rename_i hz
      cases e
      rw [show x = _ from ra] at rx
      rw [show y = _ from rb] at ry
      refine op_mul pins s σ H _ _ v u Q I rx ry ⟨_, _, rfl, rfl, ?_, q m H _ (Ext.refl _ _) a1 rfl⟩
      rcases Bool.or_eq_true_iff.mp hz with z | z
      · exact .inl (smallI_iff z)
      · exact .inr (smallI_iff z)
    · cases e
  · rename_i l k
    split at e
    · rename_i xs hx
      split at e
      · rename_i hz
        cases e
        obtain ⟨a, vs, rfl, ma, ha, ga⟩ := ref_lst a1 ra hx
        rw [show y = _ from rb] at ry
        refine op_rep pins s σ H _ _ v u Q I rx ry ⟨a, _, vs, rfl, rfl, ha, (by have z := below_iff.mp hz.1; omega), (by have z := below_iff.mp hz.1; omega), by rw [ga.length, ← Z_eq]; exact hz.2, fun p hp => ?_⟩
        obtain ⟨b1, b2, b3⟩ := new_lst a1 hp (RelDs.flat ga k.toNat)
        exact q _ _ _ b2 b1 b3
      · cases e
    · cases e
  · rename_i z k
    split at e
    · rename_i hz
      cases e
      rw [show x = _ from ra] at rx
      rw [show y = _ from rb] at ry
      obtain ⟨t, rfl⟩ := rx
      obtain ⟨t', rfl⟩ := ry
      obtain ⟨z0, z3, z4⟩ := hz
      have z12 := below_iff.mp z0
      have z1 : -1000000 ≤ k := by omega
      have z2 : k ≤ 1000000 := by omega
      refine PySem.SB.mul ⟨?_, fun h1 _ => ?_, fun h1 _ => ?_⟩ fun t' tk => ⟨.str _, H, I.tok _, ⟨_, rfl⟩, q m H _ (Ext.refl _ _) a1 rfl⟩
      · rw [decide_eq_false (show ¬ k < -(2 ^ 63 : Int) by omega), decide_eq_false (show ¬ k ≥ (2 ^ 63 : Int) by omega)]; rfl
      · have e3 : (9223372036854 : Int) ≤ (2 ^ 63 - 1) / k := by
          refine (Int.le_ediv_iff_mul_le (by omega)).mpr ?_
          have : (9223372036854 : Int) * k ≤ 9223372036854 * 1000000 := by omega
          omega
        omega
      · unfold PySem.Builtin.Str.tooLong
        have := sizeLine_eq
        simp only [decide_eq_false_iff_not]
        omega
    · cases e
  · cases e
theorem o_fdiv : OpR X (binaryOp .FloorDiv) (rD2 G fdivD) := by
  obtain ⟨K, W, cls, fld, Wx, hk⟩ := G
  cases hK
  cases hw
  intro pins s σ H x y v u Q I rx ry ⟨m, h, a, b, d, h', a1, ra, rb, e, q⟩
  unfold fdivD at e
  split at e
  · split at e
    · rename_i hz
      cases e
      rw [show x = _ from ra] at rx
      rw [show y = _ from rb] at ry
      exact op_fdiv pins s σ H _ _ v u Q I rx ry ⟨_, _, rfl, rfl, ⟨hz.1, (below_iff.mp hz.2).2⟩, q m H _ (Ext.refl _ _) a1 rfl⟩
    · cases e
  · cases e
theorem o_mod : OpR X (binaryOp .Mod) (rD2 G modD) := by
  obtain ⟨K, W, cls, fld, Wx, hk⟩ := G
  cases hK
  cases hw
  intro pins s σ H x y v u Q I rx ry ⟨m, h, a, b, d, h', a1, ra, rb, e, q⟩
  unfold modD at e
  split at e
  · split at e
    · rename_i hz
      cases e
      rw [show x = _ from ra] at rx
      rw [show y = _ from rb] at ry
      exact op_mod pins s σ H _ _ v u Q I rx ry ⟨_, _, rfl, rfl, hz, q m H _ (Ext.refl _ _) a1 rfl⟩
    · cases e
  · cases e
theorem o_and : OpR X (binaryOp .BitAnd) (rD2 G andD) := by
  obtain ⟨K, W, cls, fld, Wx, hk⟩ := G
  cases hK
  cases hw
  intro pins s σ H x y v u Q I rx ry ⟨m, h, a, b, d, h', a1, ra, rb, e, q⟩
  unfold andD at e
  split at e
  · cases e
    rw [show x = _ from ra] at rx
    rw [show y = _ from rb] at ry
    exact op_and pins s σ H _ _ v u Q I rx ry ⟨_, _, rfl, rfl, q m H _ (Ext.refl _ _) a1 rfl⟩
  · cases e
theorem o_or : OpR X (binaryOp .BitOr) (rD2 G orD) := by
  obtain ⟨K, W, cls, fld, Wx, hk⟩ := G
  cases hK
  cases hw
  intro pins s σ H x y v u Q I rx ry ⟨m, h, a, b, d, h', a1, ra, rb, e, q⟩
  unfold orD at e
  split at e
  · cases e
    rw [show x = _ from ra] at rx
    rw [show y = _ from rb] at ry
    exact op_or pins s σ H _ _ v u Q I rx ry ⟨_, _, rfl, rfl, q m H _ (Ext.refl _ _) a1 rfl⟩
  · cases e
theorem o_shl : OpR X (binaryOp .LShift) (rD2 G shlD) := by
  obtain ⟨K, W, cls, fld, Wx, hk⟩ := G
  cases hK
  cases hw
  intro pins s σ H x y v u Q I rx ry ⟨m, h, a, b, d, h', a1, ra, rb, e, q⟩
  unfold shlD at e
  split at e
  · split at e
    · rename_i i j hz
      cases e
      rw [Bool.and_eq_true, Bool.and_eq_true] at hz
      obtain ⟨⟨z1, z2⟩, z3⟩ := hz
      have z1 := leI_iff.mp z1
      have z2 := below_iff.mp z2
      have z3 := smallI_iff z3
      rw [show x = _ from ra] at rx
      rw [show y = _ from rb] at ry
      exact op_shl pins s σ H _ _ v u Q I rx ry ⟨_, _, rfl, rfl, ⟨z1, by omega, by rw [pow64] at z3; omega⟩, q m H _ (Ext.refl _ _) a1 rfl⟩
    · cases e
  · cases e
theorem o_shr : OpR X (binaryOp .RShift) (rD2 G shrD) := by
  obtain ⟨K, W, cls, fld, Wx, hk⟩ := G
  cases hK
  cases hw
  intro pins s σ H x y v u Q I rx ry ⟨m, h, a, b, d, h', a1, ra, rb, e, q⟩
  unfold shrD at e
  split at e
  · split at e
    · rename_i i j hz
      cases e
      rw [show x = _ from ra] at rx
      rw [show y = _ from rb] at ry
      exact op_shr pins s σ H _ _ v u Q I rx ry ⟨_, _, rfl, rfl, leI_iff.mp hz, q m H _ (Ext.refl _ _) a1 rfl⟩
    · cases e
  · cases e
theorem o_neg : UnR X (unaryOp .USub) (rD1 G negD) := by
  obtain ⟨K, W, cls, fld, Wx, hk⟩ := G
  cases hK
  cases hw
  intro pins s σ H x v Q I rx ⟨m, h, a, d, h', a1, ra, e, q⟩
  unfold negD at e
  split at e
  · cases e
    rw [show x = _ from ra] at rx
    exact un_neg pins s σ H _ v Q I rx ⟨_, rfl, q m H _ (Ext.refl _ _) a1 rfl⟩
  · cases e
theorem o_bin {op : PySem.Operator} {f : D → D → DH → Option (D × DH)} (hf : binD op = some f) : OpR X (binaryOp op) (rD2 G f) := by
  cases op <;> simp only [binD] at hf <;> cases hf
  · exact o_add hK hw
  · exact o_sub hK hw
  · exact o_mul hK hw
  · exact o_mod hK hw
  · exact o_shl hK hw
  · exact o_shr hK hw
  · exact o_or hK hw
  · exact o_and hK hw
  · exact o_fdiv hK hw
end
end Dd

set_option Elab.async false
set_option linter.all false
set_option maxRecDepth 100000
set_option maxHeartbeats 4000000
namespace Dd
open PySem PySem.Spec PyProof.Rows L2

/-! # 8. Comparisons by values -/
theorem mapM_cons_some {α β : Type} {f : α → Option β} {x : α} {xs : List α} {ps : List β} (q : (x :: xs).mapM f = some ps) : ∃ p r, f x = some p ∧ xs.mapM f = some r ∧ ps = p :: r := by
  rw [List.mapM_cons] at q
  cases hx : f x with
  | none => rw [hx] at q; cases q
  | some p =>
    rw [hx] at q
    cases hr : xs.mapM f with
    | none => rw [hr] at q; cases q
    | some r => rw [hr] at q; cases q; exact ⟨p, r, rfl, rfl, rfl⟩
theorem map_some {α β : Type} {f : α → β} {o : Option α} {b : β} (q : o.map f = some b) : ∃ a, o = some a ∧ b = f a := by
  cases o with
  | none => cases q
  | some a => cases q; exact ⟨a, rfl, rfl⟩
section
variable {K : PySem.W.Frag} {w : World} {m : List Addr} {h : DH} {H : Hp}
theorem ints_dp : ∀ ns : List Int, DpAll K H (ns.map V.int) (ns.map PyData.int)
  | [] => .nil
  | n :: r => .cons (.int n) (ints_dp r)
theorem all_dp {n : Nat} (ih : ∀ (d : D) (v : V) (p : PyData), toPy h n d = some p → RelD K w m H d v → Dp K H v p) : ∀ (xs : List D) (vs : List V) (ps : List PyData), xs.mapM (toPy h n) = some ps → RelDs K w m H xs vs → DpAll K H vs ps
  | [], vs, ps, q, g => by
    rw [show vs = [] from g]
    cases q
    exact .nil
  | x :: xs, vs, ps, q, g => by
    obtain ⟨p, r, e1, e2, e3⟩ := mapM_cons_some q
    obtain ⟨v, vs', e4, g1, g2⟩ := g
    subst e3 e4
    exact .cons (ih x v p e1 g1) (all_dp ih xs vs' r e2 g2)
theorem toPy_dp (r : RH K w m h H) : ∀ (n : Nat) (d : D) (v : V) (p : PyData), toPy h n d = some p → RelD K w m H d v → Dp K H v p
  | 0, _, _, _, q, _ => by cases q
  | n + 1, d, v, p, q, g => by
    unfold toPy at q
    cases d with
    | non => cases q; rw [show v = _ from g]; exact .non
    | bl b => cases q; rw [show v = _ from g]; exact .bl b
    | int b => cases q; rw [show v = _ from g]; exact .int b
    | str b => cases q; rw [show v = _ from g]; exact .str b
    | tup xs =>
      obtain ⟨ps, e1, e2⟩ := map_some q
      obtain ⟨a, vs, rfl, ha, ga⟩ := g
      subst e2
      exact .tup (SqT.of ha) (all_dp (toPy_dp r n) xs vs ps e1 ga)
    | kt xs =>
      obtain ⟨ps, e1, e2⟩ := map_some q
      obtain ⟨a, vs, rfl, ha, ga⟩ := g
      subst e2
      exact .tup ha.sq (all_dp (toPy_dp r n) xs vs ps e1 (RelKs.relDs xs vs ga))
    | ref i =>
      dsimp only at q
      split at q
      · rename_i xs e0
        obtain ⟨ps, e1, e2⟩ := map_some q
        obtain ⟨a, vs, rfl, ma, ha, ga⟩ := ref_lst (xs := xs) r g (by unfold lstAt; rw [e0])
        subst e2
        exact .lst (SqL.of ha) (all_dp (toPy_dp r n) xs vs ps e1 ga)
      · cases q
    | frz ns =>
      cases q
      obtain ⟨a, rfl, ha⟩ := g
      exact .lst ha.sq (ints_dp ns)
    | wd kvs => cases q
theorem scalD_rel {a b : D} {x y : V} {r : Bool} (q : scalD a b = some r) (ra : RelD K w m H a x) (rb : RelD K w m H b y) : scal x y = true ∧ decide (x = y) = r := by
  unfold scalD at q
  split at q <;> first | cases q | skip
  all_goals
    rw [show x = _ from ra, show y = _ from rb]
    first
      | exact ⟨rfl, rfl⟩
      | exact ⟨rfl, decide_eq_decide.mpr ⟨fun e => (by injection e), fun e => (by rw [e])⟩⟩
      | exact ⟨rfl, decide_eq_false (fun e => nomatch e)⟩
theorem eqB_cases {a b : D} {r : Bool} (q : eqB a b h = some r) : scalD a b = some r ∨ ∃ x y, toPy h 20 a = some x ∧ toPy h 20 b = some y ∧ SeqAt.shaped x = true ∧ SeqAt.shaped y = true ∧ r = PyData.eqv x y := by
  unfold eqB at q
  split at q
  · rename_i r' e
    cases q
    exact .inl e
  · split at q
    · rename_i x y e1 e2
      split at q
      · rename_i hz
        rw [Bool.and_eq_true] at hz
        cases q
        exact .inr ⟨x, y, e1, e2, hz.1, hz.2, rfl⟩
      · cases q
    · cases q
end
theorem flat_rel {K : PySem.W.Frag} {w : World} {m : List Addr} {H : Hp} {d : D} {v : V} (q : flatD d = true) (g : RelD K w m H d v) : flatV v = true := by
  cases d <;> first | (rw [show v = _ from g]; rfl) | cases q
theorem flats_rel {K : PySem.W.Frag} {w : World} {m : List Addr} {H : Hp} : ∀ {ds : List D} {vs : List V}, ds.all flatD = true → RelDs K w m H ds vs → vs.all flatV = true
  | [], _, _, g => by rw [show _ = [] from g]; rfl
  | d :: ds, _, q, g => by
    obtain ⟨v, vs', e, g1, g2⟩ := g
    subst e
    rw [List.all_cons, Bool.and_eq_true] at q ⊢
    exact ⟨flat_rel q.1 g1, flats_rel q.2 g2⟩
theorem eqV_scal {K : PySem.W.Frag} {w : World} {m : List Addr} {H : Hp} {a b : D} {x y : V} {r : Bool} (q : scalD a b = some r) (ra : RelD K w m H a x) (rb : RelD K w m H b y) : eqV x y = r := by
  unfold scalD at q
  split at q <;> first | cases q | skip
  all_goals
    rw [show x = _ from ra, show y = _ from rb]
    first
      | rfl
      | (simp only [eqV]; rw [Bool.beq_eq_decide_eq])
theorem anyEq_rel {K : PySem.W.Frag} {w : World} {m : List Addr} {H : Hp} {x : D} {v : V} {h : DH} (rx : RelD K w m H x v) : ∀ {ds : List D} {vs : List V} {r : Bool}, anyEq x h ds = some r → RelDs K w m H ds vs → inV v vs = r
  | [], _, r, q, g => by
    rw [show _ = [] from g]
    cases q
    rfl
  | d :: ds, _, r, q, g => by
    obtain ⟨u, vs', e, g1, g2⟩ := g
    subst e
    unfold anyEq at q
    split at q
    · rename_i a ea
      obtain ⟨b, eb, er⟩ := map_some q
      subst er
      have e1 := eqV_scal ea g1 rx
      have e2 := anyEq_rel rx eb g2
      show (eqV u v || inV v vs') = _
      rw [e1, e2]
    · cases q
theorem lookD_rel {K : PySem.W.Frag} {w : World} {m : List Addr} {H : Hp} {κ : Type} [DecidableEq κ] (k : κ) : ∀ {ds : List (κ × D)} {vs : List (κ × V)}, RelKV K w m H ds vs →
    (∀ d, lookD ds k = some d → ∃ v, valV vs k = some v ∧ RelD K w m H d v) ∧ (lookD ds k = none → valV vs k = none)
  | [], _, g => by
    rw [show _ = [] from g]
    exact ⟨fun d q => (by cases q), fun _ => rfl⟩
  | p :: ds, _, g => by
    obtain ⟨v, vs', e, g1, g2⟩ := g
    subst e
    obtain ⟨i1, i2⟩ := lookD_rel k g2
    by_cases hk : p.1 = k
    · have e1 : lookD (p :: ds) k = some p.2 := by simp [lookD, List.find?_cons, hk]
      have e2 : valV ((p.1, v) :: vs') k = some v := valV_pos hk
      rw [e1, e2]
      exact ⟨fun d q => (by cases q; exact ⟨v, rfl, g1⟩), fun q => (by cases q)⟩
    · have e1 : lookD (p :: ds) k = lookD ds k := by simp [lookD, List.find?_cons, hk]
      have e2 : valV ((p.1, v) :: vs') k = valV vs' k := valV_neg hk
      rw [e1, e2]
      exact ⟨i1, i2⟩
theorem keyD_rel {K : PySem.W.Frag} {w : World} {m : List Addr} {H : Hp} {d : D} {v : V} {k : Key} (q : keyD d = some k) (g : RelD K w m H d v) : v = kV k := by
  cases d <;> simp only [keyD] at q <;> cases q
  · exact g
  · exact g
theorem keysD_rel {K : PySem.W.Frag} {w : World} {m : List Addr} {H : Hp} : ∀ {ds : List D} {vs : List V} {k : List Key}, keysD ds = some k → RelDs K w m H ds vs → vs = k.map kV
  | [], _, k, q, g => by
    rw [show _ = [] from g]
    cases q
    rfl
  | d :: ds, _, k, q, g => by
    obtain ⟨v, vs', e, g1, g2⟩ := g
    subst e
    obtain ⟨p, r, e1, e2, e3⟩ := mapM_cons_some q
    subst e3
    rw [keyD_rel e1 g1, keysD_rel e2 g2]
    rfl
section
variable {X : Cx} {G : Pc} (hK : X.K = G.K) (hw : X.w = G.w)
include hK hw
theorem o_eq (hu : X.A.units + 100 < cLine) : OpR X (compareOp .Eq) (rD2 G eqD) := by
  obtain ⟨K, W, cls, fld, Wx, hk⟩ := G
  cases hK
  cases hw
  intro pins s σ H x y v u Q I rx ry ⟨m, h, a, b, d, h', a1, ra, rb, e, q⟩
  obtain ⟨r, e1, e2⟩ := map_some e
  cases e2
  rcases eqB_cases e1 with z | ⟨p, p', z1, z2, z3, z4, z5⟩
  · obtain ⟨c1, c2⟩ := scalD_rel z ra rb
    exact op_eq pins s σ H x y v u Q I rx ry ⟨c1, q m H _ (Ext.refl _ _) a1 (by rw [c2]; rfl)⟩
  · exact op_eqD (by omega) pins s σ H x y v u Q I rx ry ⟨p, p', toPy_dp a1 20 a x p z1 ra, toPy_dp a1 20 b y p' z2 rb, z3, z4, q m H _ (Ext.refl _ _) a1 (by rw [← z5]; rfl)⟩
theorem o_ne (hu : X.A.units + 100 < cLine) : OpR X (compareOp .NotEq) (rD2 G neD) := by
  obtain ⟨K, W, cls, fld, Wx, hk⟩ := G
  cases hK
  cases hw
  intro pins s σ H x y v u Q I rx ry ⟨m, h, a, b, d, h', a1, ra, rb, e, q⟩
  obtain ⟨r, e1, e2⟩ := map_some e
  cases e2
  rcases eqB_cases e1 with z | ⟨p, p', z1, z2, z3, z4, z5⟩
  · obtain ⟨c1, c2⟩ := scalD_rel z ra rb
    exact op_ne pins s σ H x y v u Q I rx ry ⟨c1, q m H _ (Ext.refl _ _) a1 (by rw [c2]; rfl)⟩
  · exact op_neD (by omega) pins s σ H x y v u Q I rx ry ⟨p, p', toPy_dp a1 20 a x p z1 ra, toPy_dp a1 20 b y p' z2 rb, z3, z4, q m H _ (Ext.refl _ _) a1 (by rw [← z5]; rfl)⟩
theorem o_ord {op : PySem.CmpOp} {f : D → D → DH → Option (D × DH)} (hf : ordD op = some f) : OpR X (compareOp op) (rD2 G f) := by
  obtain ⟨K, W, cls, fld, Wx, hk⟩ := G
  cases hK
  cases hw
  intro pins s σ H x y v u Q I rx ry ⟨m, h, a, b, d, h', a1, ra, rb, e, q⟩
  cases op <;> simp only [ordD] at hf <;> cases hf
  · unfold ltD at e
    split at e <;> cases e <;> rw [show x = _ from ra] at rx <;> rw [show y = _ from rb] at ry
    · exact op_lt pins s σ H _ _ v u Q I rx ry ⟨_, _, rfl, rfl, q m H _ (Ext.refl _ _) a1 (by show V.bl _ = V.bl _; rw [ltI_eq])⟩
    · exact op_lt_str pins s σ H _ _ v u Q I rx ry ⟨_, _, rfl, rfl, q m H _ (Ext.refl _ _) a1 rfl⟩
  · unfold leD at e
    split at e <;> cases e <;> rw [show x = _ from ra] at rx <;> rw [show y = _ from rb] at ry
    · exact op_le pins s σ H _ _ v u Q I rx ry ⟨_, _, rfl, rfl, q m H _ (Ext.refl _ _) a1 (by show V.bl _ = V.bl _; rw [leI_eq])⟩
    · exact op_le_str pins s σ H _ _ v u Q I rx ry ⟨_, _, rfl, rfl, q m H _ (Ext.refl _ _) a1 rfl⟩
  · unfold gtD at e
    split at e <;> cases e <;> rw [show x = _ from ra] at rx <;> rw [show y = _ from rb] at ry
    · exact op_gt pins s σ H _ _ v u Q I rx ry ⟨_, _, rfl, rfl, q m H _ (Ext.refl _ _) a1 (by show V.bl _ = V.bl _; rw [ltI_eq])⟩
    · exact op_gt_str pins s σ H _ _ v u Q I rx ry ⟨_, _, rfl, rfl, q m H _ (Ext.refl _ _) a1 rfl⟩
  · unfold geD at e
    split at e <;> cases e <;> rw [show x = _ from ra] at rx <;> rw [show y = _ from rb] at ry
    · exact op_ge pins s σ H _ _ v u Q I rx ry ⟨_, _, rfl, rfl, q m H _ (Ext.refl _ _) a1 (by show V.bl _ = V.bl _; rw [leI_eq])⟩
    · exact op_ge_str pins s σ H _ _ v u Q I rx ry ⟨_, _, rfl, rfl, q m H _ (Ext.refl _ _) a1 rfl⟩
theorem is_non {m : List Addr} {H : Hp} {a : D} {x : V} (ra : RelD X.K X.w m H a x) : decide (x = V.non) = isNonD a := by
  cases a with
  | non => rw [show x = _ from ra]; rfl
  | bl b => rw [show x = _ from ra]; rfl
  | int b => rw [show x = _ from ra]; rfl
  | str b => rw [show x = _ from ra]; rfl
  | tup b => obtain ⟨_, _, e, _⟩ := ra; rw [e]; rfl
  | kt b => obtain ⟨_, _, e, _⟩ := ra; rw [e]; rfl
  | ref b => obtain ⟨_, _, e⟩ := ra; rw [e]; rfl
  | frz b => obtain ⟨_, e, _⟩ := ra; rw [e]; rfl
  | wd b => obtain ⟨_, _, _, e, _⟩ := ra; rw [e]; rfl
theorem o_is : OpR X (compareOp .Is) (rD2 G isD) := by
  have hn := @is_non X G hK hw
  obtain ⟨K, W, cls, fld, Wx, hk⟩ := G
  cases hK
  cases hw
  intro pins s σ H x y v u Q I rx ry ⟨m, h, a, b, d, h', a1, ra, rb, e, q⟩
  unfold isD at e
  split at e
  · cases e
    rw [show y = _ from rb] at ry
    exact op_isN pins s σ H x _ v u Q I rx ry ⟨rfl, q m H _ (Ext.refl _ _) a1 (by rw [hn ra]; rfl)⟩
  · cases e
    rw [show x = _ from ra] at rx
    rw [show y = _ from rb] at ry
    exact op_is_bl pins s σ H _ _ v u Q I rx ry ⟨_, _, rfl, rfl, q m H _ (Ext.refl _ _) a1 rfl⟩
  · cases e
theorem o_isNot : OpR X (compareOp .IsNot) (rD2 G isNotD) := by
  have hn := @is_non X G hK hw
  obtain ⟨K, W, cls, fld, Wx, hk⟩ := G
  cases hK
  cases hw
  intro pins s σ H x y v u Q I rx ry ⟨m, h, a, b, d, h', a1, ra, rb, e, q⟩
  unfold isNotD at e
  split at e
  · rename_i r h1 e1
    cases e
    unfold isD at e1
    split at e1
    · cases e1
      rw [show y = _ from rb] at ry
      exact op_notN pins s σ H x _ v u Q I rx ry ⟨rfl, q m H _ (Ext.refl _ _) a1 (by rw [hn ra]; rfl)⟩
    · cases e1
      rw [show x = _ from ra] at rx
      rw [show y = _ from rb] at ry
      exact op_isnot_bl pins s σ H _ _ v u Q I rx ry ⟨_, _, rfl, rfl, q m H _ (Ext.refl _ _) a1 rfl⟩
    · cases e1
  · cases e
end
end Dd

set_option Elab.async false
set_option linter.all false
set_option maxRecDepth 100000
set_option maxHeartbeats 4000000
namespace Dd
open PySem PySem.Spec PyProof.Rows L2

/-! # 9. Membership, items, slices, truth -/
theorem KV_any {K : PySem.W.Frag} {w : World} {m : List Addr} {H : Hp} {κ : Type} : ∀ {ds : List (κ × D)} {vs : List (κ × V)}, RelKV K w m H ds vs → vs.isEmpty = ds.isEmpty ∧ vs.length = ds.length
  | [], _, g => by rw [show _ = [] from g]; exact ⟨rfl, rfl⟩
  | d :: ds, _, g => by
    obtain ⟨v, vs', e, g1, g2⟩ := g
    subst e
    exact ⟨rfl, by rw [List.length_cons, List.length_cons, (KV_any g2).2]⟩
section
variable {K : PySem.W.Frag} {w : World} {m : List Addr} {h : DH} {H : Hp}
/-- a dict of ours at a key -/
theorem dGet_rel (r : RH K w m h H) {d k : D} {x y : V} {i : Nat} {o : Option D} (hd : d = .ref i) (q : dGet d k h = some o) (rd : RelD K w m H d x) (rk : RelD K w m H k y) :
    ∃ a o', x = .ref a ∧ DGet H a y o' ∧ o'.isSome = o.isSome ∧ ∀ z, o = some z → ∃ v, o' = some v ∧ RelD K w m H z v := by
  subst hd
  unfold dGet at q
  dsimp only at q
  obtain ⟨a, ma, rfl⟩ := rd
  split at q
  · rename_i kvs e
    obtain ⟨kk, e1, e2⟩ := map_some q
    obtain ⟨ob, e3, vs, e4, g⟩ := r.get ma e
    subst e4
    have ey := keyD_rel e1 rk
    subst ey
    obtain ⟨l1, l2⟩ := lookD_rel kk g
    refine ⟨a, _, rfl, DGet.k (k := kk) e3, ?_, fun z hz => l1 z (by rw [← e2]; exact hz)⟩
    cases hl : lookD kvs kk with
    | none => (rw [e2, hl, l2 hl]; try rfl)
    | some z =>
      obtain ⟨v, h1, _⟩ := l1 z hl
      rw [e2, hl, h1]
      rfl
  · rename_i kvs ks e
    obtain ⟨kk, e1, e2⟩ := map_some q
    obtain ⟨ob, e3, vs, e4, g⟩ := r.get ma e
    subst e4
    obtain ⟨b, us, rfl, hb, gb⟩ := rk
    have ey := keysD_rel e1 gb
    subst ey
    obtain ⟨l1, l2⟩ := lookD_rel kk g
    refine ⟨a, _, rfl, DGet.t (k := kk) e3 hb, ?_, fun z hz => l1 z (by rw [← e2]; exact hz)⟩
    cases hl : lookD kvs kk with
    | none => (rw [e2, hl, l2 hl]; try rfl)
    | some z =>
      obtain ⟨v, h1, _⟩ := l1 z hl
      rw [e2, hl, h1]
      rfl
  · cases q
theorem wdGet_rel {kvs : List (Str × D)} {k : D} {x y : V} {o : Option D} (q : dGet (.wd kvs) k h = some o) (rd : RelD K w m H (.wd kvs) x) (rk : RelD K w m H k y) :
    ∃ a es n z, x = .ref a ∧ KDict K w a es n ∧ y = .str z ∧ WdAt K a z o := by
  unfold dGet at q
  dsimp only at q
  split at q
  · rename_i z
    cases q
    obtain ⟨a, es, n, rfl, kd, g⟩ := rd
    exact ⟨a, es, n, z, rfl, kd, rk, g z⟩
  · cases q
theorem atI_rel {ds : List D} {vs : List V} {i : Int} {d : D} (g : RelDs K w m H ds vs) (q : L2.atI ds i = some d) : ∃ v, L2.atI vs i = some v ∧ RelD K w m H d v := by
  unfold L2.atI at q ⊢
  rw [g.length]
  cases hj : L2.ixN ds.length i with
  | none => rw [hj] at q; cases q
  | some j =>
    rw [hj] at q
    exact RelDs.get g q
theorem atI_map {ns : List Int} {i j : Int} (q : L2.atI ns i = some j) : L2.atI (ns.map V.int) i = some (.int j) := by
  unfold L2.atI at q ⊢
  rw [List.length_map]
  cases hj : L2.ixN ns.length i with
  | none => rw [hj] at q; cases q
  | some k =>
    rw [hj] at q
    have q' : ns[k]? = some j := q
    show (ns.map V.int)[k]? = _
    rw [List.getElem?_map, q']
    rfl
theorem cut_rel {ds : List D} {vs : List V} (g : RelDs K w m H ds vs) (lo hi : Option Int) : RelDs K w m H (cutD ds lo hi) (cutV vs lo hi) := by
  unfold cutD cutV
  rw [g.length]
  exact (g.drop _).take _
theorem tru_rel (r : RH K w m h H) {d : D} {x : V} {b : Bool} (q : truD d h = some b) (g : RelD K w m H d x) : TruV K x H b := by
  unfold truD at q
  have emp : ∀ {ds : List D} {vs : List V}, RelDs K w m H ds vs → vs.isEmpty = ds.isEmpty := fun {ds vs} g => by
    cases ds with
    | nil => (rw [show vs = [] from g]; try rfl)
    | cons d ds => obtain ⟨v, vs', e, _, _⟩ := g; rw [e]; rfl
  cases d with
  | non => cases q; rw [show x = _ from g]; rfl
  | bl b => cases q; rw [show x = _ from g]; rfl
  | int b => cases q; rw [show x = _ from g]; rfl
  | str b => cases q
  | tup xs => cases q; obtain ⟨a, vs, rfl, ha, ga⟩ := g; exact .inr (.inl ⟨vs, SqT.of ha, by rw [emp ga]⟩)
  | kt xs => cases q; obtain ⟨a, vs, rfl, ha, ga⟩ := g; exact .inr (.inl ⟨vs, ha.sq, by rw [emp (RelKs.relDs xs vs ga)]⟩)
  | ref i =>
    obtain ⟨a, ma, rfl⟩ := g
    dsimp only at q
    split at q
    · rename_i xs e
      cases q
      obtain ⟨ob, e3, vs, e4, ga⟩ := r.get ma e
      subst e4
      exact .inl ⟨vs, SqL.of e3, by rw [emp ga]⟩
    · rename_i xs e
      cases q
      obtain ⟨ob, e3, vs, e4, ga⟩ := r.get ma e
      subst e4
      exact .inr (.inr ⟨vs, e3, by rw [(KV_any ga).1]⟩)
    · cases q
  | frz ns => cases q
  | wd kvs => cases q
end
theorem str_one {c : Str} (h : c.length = 1) : c = ⟨#[c.cps.getD 0 0]⟩ := by
  obtain ⟨cps⟩ := c
  have h : cps.size = 1 := h
  obtain ⟨l⟩ := cps
  match l, h with
  | [x], _ => rfl
section
variable {X : Cx} {G : Pc} (hK : X.K = G.K) (hw : X.w = G.w)
include hK hw
theorem o_in (hu : X.A.units + 100 < cLine) : OpR X (compareOp .In) (rD2 G inD) := by
  obtain ⟨K, W, cls, fld, Wx, hk⟩ := G
  cases hK
  cases hw
  intro pins s σ H x y v u Q I rx ry ⟨m, h, a, b, d, h', a1, ra, rb, e, q⟩
  obtain ⟨r, e1, e2⟩ := map_some e
  cases e2
  have fin : Q (.bl r) H := q m H _ (Ext.refl _ _) a1 rfl
  unfold inB at e1
  cases b with
  | str z =>
    dsimp only at e1
    split at e1
    · rename_i c
      split at e1
      · rename_i hc
        cases e1
        rw [show x = _ from ra] at rx
        rw [show y = _ from rb] at ry
        exact op_in_sign pins s σ H _ _ v u Q I rx ry ⟨c.cps.getD 0 0, z, by rw [← str_one hc], rfl, fin⟩
      · cases e1
    · cases e1
  | tup xs =>
    dsimp only at e1
    split at e1
    · rename_i hz
      rw [Bool.and_eq_true] at hz
      obtain ⟨p, vs, rfl, hp, gp⟩ := rb
      have z := anyEq_rel ra e1 gp
      exact op_in_seq pins s σ H _ _ v u Q I rx ry ⟨p, vs, rfl, .inr (SqT.of hp), flat_rel hz.1 ra, flats_rel hz.2 gp, by rw [z]; exact fin⟩
    · cases e1
  | kt xs =>
    dsimp only at e1
    split at e1
    · rename_i hz
      rw [Bool.and_eq_true] at hz
      obtain ⟨p, vs, rfl, hp, gp⟩ := rb
      have gp : RelDs X.K X.w m H xs vs := RelKs.relDs xs vs gp
      have z := anyEq_rel ra e1 gp
      exact op_in_seq pins s σ H _ _ v u Q I rx ry ⟨p, vs, rfl, .inr hp.sq, flat_rel hz.1 ra, flats_rel hz.2 gp, by rw [z]; exact fin⟩
    · cases e1
  | ref i =>
    dsimp only at e1
    split at e1
    · rename_i xs ex
      split at e1
      · rename_i hz
        rw [Bool.and_eq_true] at hz
        obtain ⟨p, vs, rfl, mp, hp, gp⟩ := ref_lst (xs := xs) a1 rb (by unfold lstAt; rw [ex])
        have z := anyEq_rel ra e1 gp
        exact op_in_seq pins s σ H _ _ v u Q I rx ry ⟨p, vs, rfl, .inl (SqL.of hp), flat_rel hz.1 ra, flats_rel hz.2 gp, by rw [z]; exact fin⟩
      · cases e1
    · obtain ⟨o, e3, e4⟩ := map_some e1
      obtain ⟨p, o', rfl, g1, g2, _⟩ := dGet_rel a1 rfl e3 rb ra
      cases (show u = Value.ref p from ry)
      exact d_in (by omega) I g1 rx fun s' I' => ⟨.bl o'.isSome, H, I', rfl, by rw [g2, ← e4]; exact fin⟩
    · cases e1
  | wd kvs =>
    obtain ⟨o, e3, e4⟩ := map_some e1
    obtain ⟨p, es, n, z, rfl, kd, rfl, wa⟩ := wdGet_rel e3 rb ra
    cases o with
    | none => exact op_in_kd kd pins s σ H _ _ v u Q I rx ry ⟨z, none, rfl, rfl, wa, by rw [e4] at fin; exact fin⟩
    | some dd =>
      obtain ⟨u0, v0, h1, h2, h3⟩ := wa
      exact op_in_kd kd pins s σ H _ _ v u Q I rx ry ⟨z, some u0, rfl, rfl, h1, by rw [e4] at fin; exact fin⟩
  | _ => cases e1
theorem o_notIn (hu : X.A.units + 100 < cLine) : OpR X (compareOp .NotIn) (rD2 G notInD) := by
  obtain ⟨K, W, cls, fld, Wx, hk⟩ := G
  cases hK
  cases hw
  intro pins s σ H x y v u Q I rx ry ⟨m, h, a, b, d, h', a1, ra, rb, e, q⟩
  obtain ⟨r, e1, e2⟩ := map_some e
  cases e2
  have fin : Q (.bl (!r)) H := q m H _ (Ext.refl _ _) a1 rfl
  unfold inB at e1
  cases b with
  | str z =>
    dsimp only at e1
    split at e1
    · rename_i c
      split at e1
      · rename_i hc
        cases e1
        rw [show x = _ from ra] at rx
        rw [show y = _ from rb] at ry
        exact op_notIn_sign pins s σ H _ _ v u Q I rx ry ⟨c.cps.getD 0 0, z, by rw [← str_one hc], rfl, fin⟩
      · cases e1
    · cases e1
  | tup xs =>
    dsimp only at e1
    split at e1
    · rename_i hz
      rw [Bool.and_eq_true] at hz
      obtain ⟨p, vs, rfl, hp, gp⟩ := rb
      have z := anyEq_rel ra e1 gp
      exact op_notIn_seq pins s σ H _ _ v u Q I rx ry ⟨p, vs, rfl, .inr (SqT.of hp), flat_rel hz.1 ra, flats_rel hz.2 gp, by rw [z]; exact fin⟩
    · cases e1
  | kt xs =>
    dsimp only at e1
    split at e1
    · rename_i hz
      rw [Bool.and_eq_true] at hz
      obtain ⟨p, vs, rfl, hp, gp⟩ := rb
      have gp : RelDs X.K X.w m H xs vs := RelKs.relDs xs vs gp
      have z := anyEq_rel ra e1 gp
      exact op_notIn_seq pins s σ H _ _ v u Q I rx ry ⟨p, vs, rfl, .inr hp.sq, flat_rel hz.1 ra, flats_rel hz.2 gp, by rw [z]; exact fin⟩
    · cases e1
  | ref i =>
    dsimp only at e1
    split at e1
    · rename_i xs ex
      split at e1
      · rename_i hz
        rw [Bool.and_eq_true] at hz
        obtain ⟨p, vs, rfl, mp, hp, gp⟩ := ref_lst (xs := xs) a1 rb (by unfold lstAt; rw [ex])
        have z := anyEq_rel ra e1 gp
        exact op_notIn_seq pins s σ H _ _ v u Q I rx ry ⟨p, vs, rfl, .inl (SqL.of hp), flat_rel hz.1 ra, flats_rel hz.2 gp, by rw [z]; exact fin⟩
      · cases e1
    · obtain ⟨o, e3, e4⟩ := map_some e1
      obtain ⟨p, o', rfl, g1, g2, _⟩ := dGet_rel a1 rfl e3 rb ra
      cases (show u = Value.ref p from ry)
      exact d_notIn (by omega) I g1 rx fun s' I' => ⟨.bl (!o'.isSome), H, I', rfl, by rw [g2, ← e4]; exact fin⟩
    · cases e1
  | wd kvs =>
    obtain ⟨o, e3, e4⟩ := map_some e1
    obtain ⟨p, es, n, z, rfl, kd, rfl, wa⟩ := wdGet_rel e3 rb ra
    cases o with
    | none => exact op_notIn_kd kd pins s σ H _ _ v u Q I rx ry ⟨z, none, rfl, rfl, wa, by rw [e4] at fin; exact fin⟩
    | some dd =>
      obtain ⟨u0, v0, h1, h2, h3⟩ := wa
      exact op_notIn_kd kd pins s σ H _ _ v u Q I rx ry ⟨z, some u0, rfl, rfl, h1, by rw [e4] at fin; exact fin⟩
  | _ => cases e1
theorem o_cmp {op : PySem.CmpOp} {f : D → D → DH → Option (D × DH)} (hf : cmpD op = some f) (hu : X.A.units + 100 < cLine) : OpR X (compareOp op) (rD2 G f) := by
  cases op <;> simp only [cmpD] at hf <;> cases hf
  · exact o_eq hK hw hu
  · exact o_ne hK hw hu
  · exact o_ord hK hw rfl
  · exact o_ord hK hw rfl
  · exact o_ord hK hw rfl
  · exact o_ord hK hw rfl
  · exact o_is hK hw
  · exact o_isNot hK hw
  · exact o_in hK hw hu
  · exact o_notIn hK hw hu
theorem x_ix (hu : X.A.units + 100 < cLine) : IxR X (rD2 G ixD) := by
  obtain ⟨K, W, cls, fld, Wx, hk⟩ := G
  cases hK
  cases hw
  intro value slice pins s σ H x y v u Q I rx ry ⟨m, h, a, b, d, h', a1, ra, rb, e, q⟩ hs
  unfold ixD at e
  split at e
  · obtain ⟨z, e1, e2⟩ := map_some e
    cases e2
    obtain ⟨p, vs, rfl, hp, gp⟩ := ra
    rw [show y = _ from rb] at ry
    obtain ⟨v', g1, g2⟩ := atI_rel gp e1
    exact ix_tup value slice pins s σ H _ _ v u Q I rx ry ⟨p, vs, _, v', rfl, rfl, SqT.of hp, g1, q m H _ (Ext.refl _ _) a1 g2⟩ hs
  · obtain ⟨z, e1, e2⟩ := map_some e
    cases e2
    rename_i xs i
    obtain ⟨p, vs, rfl, hp, gp⟩ := ra
    have gp : RelDs X.K X.w m H xs vs := RelKs.relDs xs vs gp
    rw [show y = _ from rb] at ry
    obtain ⟨v', g1, g2⟩ := atI_rel gp e1
    exact ix_tup value slice pins s σ H _ _ v u Q I rx ry ⟨p, vs, _, v', rfl, rfl, hp.sq, g1, q m H _ (Ext.refl _ _) a1 g2⟩ hs
  · obtain ⟨z, e1, e2⟩ := map_some e
    cases e2
    obtain ⟨j, e3, e4⟩ := map_some e1
    subst e4
    obtain ⟨p, rfl, hp⟩ := ra
    rw [show y = _ from rb] at ry
    exact ix_list value slice pins s σ H _ _ v u Q I rx ry ⟨p, _, _, _, rfl, rfl, hp.sq, atI_map e3, q m H _ (Ext.refl _ _) a1 rfl⟩ hs
  · obtain ⟨z, e1, e2⟩ := map_some e
    cases e2
    obtain ⟨j, e3, e4⟩ := map_some e1
    subst e4
    unfold strAt at e3
    split at e3
    · rename_i hz
      rw [show x = _ from ra] at rx
      rw [show y = _ from rb] at ry
      exact ix_str value slice pins s σ H _ _ v u Q I rx ry ⟨_, _, j, rfl, rfl, by rw [← Z_eq]; exact hz, e3, q m H _ (Ext.refl _ _) a1 rfl⟩ hs
    · cases e3
  · rename_i i
    split at e
    · rename_i xs ex
      split at e
      · obtain ⟨z, e1, e2⟩ := map_some e
        cases e2
        obtain ⟨p, vs, rfl, mp, hp, gp⟩ := ref_lst (xs := xs) a1 ra (by unfold lstAt; rw [ex])
        rw [show y = _ from rb] at ry
        obtain ⟨v', g1, g2⟩ := atI_rel gp e1
        exact ix_list value slice pins s σ H _ _ v u Q I rx ry ⟨p, vs, _, v', rfl, rfl, SqL.of hp, g1, q m H _ (Ext.refl _ _) a1 g2⟩ hs
      · cases e
    · split at e
      · rename_i z e1
        cases e
        obtain ⟨p, o', rfl, g1, g2, g3⟩ := dGet_rel a1 rfl e1 ra rb
        obtain ⟨v', rfl, g4⟩ := g3 _ rfl
        cases (show v = Value.ref p from rx)
        exact tail_any (dict_typeIs I g1) PySem.F.slot_dict_getitem.lookup (d_getItem (by omega) I g1 ry fun w' s' I' rw' => ⟨v', H, I', rw', q m H _ (Ext.refl _ _) a1 g4⟩) hs
      · cases e
    · cases e
  · split at e
    · rename_i z e1
      cases e
      obtain ⟨p, es, n, zz, rfl, kd, rfl, wa⟩ := wdGet_rel e1 ra rb
      obtain ⟨u0, v0, h1, h2, h3⟩ := wa
      refine tail_any (T := "dict") ?_ PySem.F.slot_dict_getitem.lookup (op_item_kd kd pins s σ H _ _ v u Q I rx ry ⟨zz, u0, v0, rfl, rfl, h1, h2, q m H _ (Ext.refl _ _) a1 (RelK.relD _ _ h3)⟩) hs
      cases (show v = Value.ref p from rx)
      exact kd_type kd I
    · cases e
  · cases e
def rDSl (G : Pc) : V → Option Int → Option Int → Hp → VK → Prop := fun x lo hi H Q =>
  ∃ m h a d h', G.H m h H ∧ G.R m H a x ∧ sliceD a lo hi h = some (d, h') ∧ ∀ m' H' v, Ext m H m' H' → G.H m' h' H' → G.R m' H' d v → Q v H'
theorem s_slice : SlR X (rDSl G) := by
  obtain ⟨K, W, cls, fld, Wx, hk⟩ := G
  cases hK
  cases hw
  intro pins s σ H x v vl vu lo hi sl Q I rx hs pl pu ⟨m, h, a, d, h', a1, ra, e, q⟩
  unfold sliceD at e
  cases a with
  | tup xs =>
    cases e
    obtain ⟨p, vs, rfl, hp, gp⟩ := ra
    refine sl_tupA pins s σ H _ v vl vu lo hi sl Q I rx hs pl pu ⟨p, vs, rfl, SqT.of hp, fun hwh => ?_, fun _ t ht => ?_⟩
    · have e0 : cutD xs lo hi = xs := by
        unfold cutD
        rw [← gp.length, hwh.1, hwh.2, List.drop_zero, Nat.sub_zero, gp.length, List.take_length]
      rw [e0] at q
      exact q m H _ (Ext.refl _ _) a1 ⟨p, vs, rfl, hp, gp⟩
    · obtain ⟨b1, b2, b3⟩ := new_tup a1 ht (cut_rel gp lo hi)
      exact q m _ _ b2 b1 b3
  | ref i =>
    dsimp only at e
    split at e
    · rename_i xs ex
      cases e
      obtain ⟨p, vs, rfl, mp, hp, gp⟩ := ref_lst a1 ra ex
      refine sl_list pins s σ H _ v vl vu lo hi sl Q I rx hs pl pu ⟨p, vs, rfl, SqL.of hp, fun t ht => ?_⟩
      obtain ⟨b1, b2, b3⟩ := new_lst a1 ht (cut_rel gp lo hi)
      exact q _ _ _ b2 b1 b3
    · cases e
  | _ => cases e
end
end Dd

set_option Elab.async false
set_option linter.all false
set_option maxRecDepth 100000
set_option maxHeartbeats 4000000
namespace Dd
open PySem PySem.Spec PyProof.Rows L2

/-! # 10. Built-ins and methods by values -/
theorem ints_rel2 {K : PySem.W.Frag} {w : World} {m : List Addr} {H : Hp} : ∀ {ds : List D} {ns : List Int} {vs : List V}, intsD ds = some ns → RelDs K w m H ds vs → vs = ns.map V.int
  | [], ns, vs, e, g => by cases e; exact g
  | .int i :: r, ns, vs, e, g => by
    obtain ⟨ms, e1, rfl⟩ := map_some (show (intsD r).map (i :: ·) = some ns from e)
    obtain ⟨v, vs', rfl, g1, g2⟩ := g
    rw [show v = _ from g1, ints_rel2 e1 g2]
    rfl
  | .non :: r, ns, vs, e, g => nomatch e
  | .bl _ :: r, ns, vs, e, g => nomatch e
  | .str _ :: r, ns, vs, e, g => nomatch e
  | .tup _ :: r, ns, vs, e, g => nomatch e
  | .kt _ :: r, ns, vs, e, g => nomatch e
  | .ref _ :: r, ns, vs, e, g => nomatch e
  | .frz _ :: r, ns, vs, e, g => nomatch e
  | .wd _ :: r, ns, vs, e, g => nomatch e
theorem fold_max : ∀ (r : List Int) (x : Int), r.foldl (fun a b => if ltI a b then b else a) x ∈ x :: r ∧ ∀ y ∈ x :: r, y ≤ r.foldl (fun a b => if ltI a b then b else a) x
  | [], x => ⟨List.mem_cons_self, fun y hy => by rw [List.mem_singleton.mp hy]; exact Int.le_refl _⟩
  | b :: r, x => by
    rw [List.foldl_cons]
    obtain ⟨h1, h2⟩ := fold_max r (if ltI x b then b else x)
    have hx : x ≤ (if ltI x b then b else x) ∧ b ≤ (if ltI x b then b else x) := by
      rw [ltI_eq]
      by_cases h : x < b
      · rw [decide_eq_true h, if_pos rfl]; omega
      · rw [decide_eq_false h, if_neg (by decide)]; omega
    refine ⟨?_, fun y hy => ?_⟩
    · rcases List.mem_cons.mp h1 with h | h
      · rw [h]
        cases ltI x b with
        | true => exact List.mem_cons_of_mem _ List.mem_cons_self
        | false => exact List.mem_cons_self
      · exact List.mem_cons_of_mem _ (List.mem_cons_of_mem _ h)
    · have h0 := h2 _ List.mem_cons_self
      rcases List.mem_cons.mp hy with rfl | hy
      · omega
      · rcases List.mem_cons.mp hy with rfl | hy
        · omega
        · exact h2 y (List.mem_cons_of_mem _ hy)
section
variable {K : PySem.W.Frag} {w : World} {m : List Addr} {h : DH} {H : Hp}
theorem Rs1 {d : D} {xs : List V} (g : RelDs K w m H [d] xs) : ∃ x, xs = [x] ∧ RelD K w m H d x := by
  obtain ⟨v, vs, e, g1, g2⟩ := g
  rw [show vs = [] from g2] at e
  exact ⟨v, e, g1⟩
theorem Rs2 {d d' : D} {xs : List V} (g : RelDs K w m H [d, d'] xs) : ∃ x y, xs = [x, y] ∧ RelD K w m H d x ∧ RelD K w m H d' y := by
  obtain ⟨v, vs, e, g1, g2⟩ := g
  obtain ⟨y, e2, g3⟩ := Rs1 g2
  subst e2
  exact ⟨v, y, e, g1, g3⟩
theorem ints_rel : ∀ ns : List Int, RelDs K w m H (ns.map D.int) (ns.map V.int)
  | [] => rfl
  | n :: r => ⟨_, _, rfl, rfl, ints_rel r⟩
theorem bools_rel : ∀ {ds : List D} {bs : List Bool} {vs : List V}, bools ds = some bs → RelDs K w m H ds vs → vs = bs.map V.bl
  | [], bs, vs, q, g => by cases q; rw [show vs = [] from g]; rfl
  | d :: ds, bs, vs, q, g => by
    obtain ⟨v, vs', e, g1, g2⟩ := g
    cases d with
    | bl b =>
      obtain ⟨r, e1, e2⟩ := map_some q
      subst e2 e
      rw [show v = _ from g1, bools_rel e1 g2]
      rfl
    | _ => cases q
theorem txts_rel : ∀ {ds : List D} {bs : List Str} {vs : List V}, txts ds = some bs → RelDs K w m H ds vs → vs = bs.map V.str
  | [], bs, vs, q, g => by cases q; rw [show vs = [] from g]; rfl
  | d :: ds, bs, vs, q, g => by
    obtain ⟨v, vs', e, g1, g2⟩ := g
    cases d with
    | str b =>
      obtain ⟨r, e1, e2⟩ := map_some q
      subst e2 e
      rw [show v = _ from g1, txts_rel e1 g2]
      rfl
    | _ => cases q
end
section
variable {X : Cx} {G : Pc} (hK : X.K = G.K) (hw : X.w = G.w)
include hK hw
theorem c_len : CallR X (.builtin "len") (rDN G (bltD .len)) := by
  obtain ⟨K, W, cls, fld, Wx, hk⟩ := G
  cases hK
  cases hw
  intro pins s σ H xs us Q I r ⟨m, h, as, d, h', a1, ra, e, q⟩
  unfold bltD at e
  split at e
  case h_1 =>
    rename_i z _ _
    split at e
    · rename_i hz
      cases e
      obtain ⟨x, rfl, g⟩ := Rs1 ra
      rw [show x = _ from g] at r
      exact call_len pins s σ H _ us Q I r ⟨_, _, rfl, ⟨by rw [← Z_eq]; exact hz, rfl⟩, q m H _ (Ext.refl _ _) a1 rfl⟩
    · cases e
  case h_2 =>
    cases e
    obtain ⟨x, rfl, p, vs, rfl, hp, gp⟩ := Rs1 ra
    exact call_len pins s σ H _ us Q I r ⟨_, _, rfl, .inr ⟨vs, SqT.of hp, rfl⟩, q m H _ (Ext.refl _ _) a1 (by rw [gp.length]; rfl)⟩
  case h_3 =>
    cases e
    obtain ⟨x, rfl, p, vs, rfl, hp, gp⟩ := Rs1 ra
    have gp : RelDs X.K X.w m H _ vs := RelKs.relDs _ vs gp
    exact call_len pins s σ H _ us Q I r ⟨_, _, rfl, .inr ⟨vs, hp.sq, rfl⟩, q m H _ (Ext.refl _ _) a1 (by rw [gp.length]; rfl)⟩
  case h_4 =>
    cases e
    obtain ⟨x, rfl, p, rfl, hp⟩ := Rs1 ra
    exact call_len pins s σ H _ us Q I r ⟨_, _, rfl, .inl ⟨_, hp.sq, rfl⟩, q m H _ (Ext.refl _ _) a1 (by rw [List.length_map]; rfl)⟩
  case h_5 =>
    split at e
    · rename_i ds ex
      cases e
      obtain ⟨x, rfl, g⟩ := Rs1 ra
      obtain ⟨p, vs, rfl, mp, hp, gp⟩ := ref_lst (xs := ds) a1 g (by unfold lstAt; rw [ex])
      exact call_len pins s σ H _ us Q I r ⟨_, _, rfl, .inl ⟨vs, SqL.of hp, rfl⟩, q m H _ (Ext.refl _ _) a1 (by rw [gp.length]; rfl)⟩
    · rename_i ds ex
      cases e
      obtain ⟨x, rfl, p, mp, rfl⟩ := Rs1 ra
      obtain ⟨ob, e3, vs, e4, gp⟩ := a1.get mp ex
      subst e4
      exact call_lenD pins s σ H _ us Q I r ⟨p, vs, rfl, e3, q m H _ (Ext.refl _ _) a1 (by rw [(KV_any gp).2]; rfl)⟩
    · cases e
  all_goals first | contradiction | cases e
theorem c_abs : CallR X (.builtin "abs") (rDN G (bltD .abs)) := by
  obtain ⟨K, W, cls, fld, Wx, hk⟩ := G
  cases hK
  cases hw
  intro pins s σ H xs us Q I r ⟨m, h, as, d, h', a1, ra, e, q⟩
  match as, e with
  | [.int i], e =>
    cases e
    obtain ⟨x, rfl, g⟩ := Rs1 ra
    rw [show x = _ from g] at r
    exact call_abs pins s σ H _ us Q I r ⟨i, rfl, q m H _ (Ext.refl _ _) a1 rfl⟩
theorem c_int : CallR X (.type "int") (rDN G (bltD .int)) := by
  obtain ⟨K, W, cls, fld, Wx, hk⟩ := G
  cases hK
  cases hw
  intro pins s σ H xs us Q I r ⟨m, h, as, d, h', a1, ra, e, q⟩
  match as, e with
  | [.int i], e =>
    cases e
    obtain ⟨x, rfl, g⟩ := Rs1 ra
    rw [show x = _ from g] at r
    exact call_int1 pins s σ H _ us Q I r (.inl ⟨i, rfl, q m H _ (Ext.refl _ _) a1 rfl⟩)
  | [.bl i], e =>
    cases e
    obtain ⟨x, rfl, g⟩ := Rs1 ra
    rw [show x = _ from g] at r
    exact call_int1 pins s σ H _ us Q I r (.inr ⟨i, rfl, q m H _ (Ext.refl _ _) a1 rfl⟩)
theorem c_str : CallR X (.type "str") (rDN G (bltD .str)) := by
  obtain ⟨K, W, cls, fld, Wx, hk⟩ := G
  cases hK
  cases hw
  intro pins s σ H xs us Q I r ⟨m, h, as, d, h', a1, ra, e, q⟩
  match as, e with
  | [.int i], e =>
    simp only [bltD] at e
    split at e
    · rename_i hz
      cases e
      obtain ⟨x, rfl, g⟩ := Rs1 ra
      rw [show x = _ from g] at r
      exact call_str_int pins s σ H _ us Q I r ⟨i, rfl, hz, q m H _ (Ext.refl _ _) a1 rfl⟩
    · cases e
theorem c_tuple : CallR X (.type "tuple") (rDN G (bltD .tuple)) := by
  obtain ⟨K, W, cls, fld, Wx, hk⟩ := G
  cases hK
  cases hw
  intro pins s σ H xs us Q I r ⟨m, h, as, d, h', a1, ra, e, q⟩
  match as, e with
  | [.ref i], e =>
    simp only [bltD] at e
    split at e
    · rename_i ds ex
      cases e
      obtain ⟨x, rfl, g⟩ := Rs1 ra
      obtain ⟨p, vs, rfl, mp, hp, gp⟩ := ref_lst a1 g ex
      refine call_tuple_of pins s σ H _ us Q I r ⟨p, vs, rfl, .inl ⟨SqL.of hp, fun t ht => ?_⟩⟩
      obtain ⟨b1, b2, b3⟩ := new_tup a1 ht gp
      exact q m _ _ b2 b1 b3
    · cases e
  | [.tup ds], e =>
    cases e
    obtain ⟨x, rfl, p, vs, rfl, hp, gp⟩ := Rs1 ra
    exact call_tuple_of pins s σ H _ us Q I r ⟨p, vs, rfl, .inr ⟨SqT.of hp, q m H _ (Ext.refl _ _) a1 ⟨p, vs, rfl, hp, gp⟩⟩⟩
theorem c_list : CallR X (.type "list") (rDN G (bltD .list)) := by
  obtain ⟨K, W, cls, fld, Wx, hk⟩ := G
  cases hK
  cases hw
  intro pins s σ H xs us Q I r ⟨m, h, as, d, h', a1, ra, e, q⟩
  match as, e with
  | [.ref i], e =>
    simp only [bltD] at e
    split at e
    · rename_i ds ex
      cases e
      obtain ⟨x, rfl, g⟩ := Rs1 ra
      obtain ⟨p, vs, rfl, mp, hp, gp⟩ := ref_lst a1 g ex
      refine call_list_of pins s σ H _ us Q I r ⟨p, vs, rfl, .inl (SqL.of hp), fun t ht => ?_⟩
      obtain ⟨b1, b2, b3⟩ := new_lst a1 ht gp
      exact q _ _ _ b2 b1 b3
    · cases e
  | [.tup ds], e =>
    cases e
    obtain ⟨x, rfl, p, vs, rfl, hp, gp⟩ := Rs1 ra
    refine call_list_of pins s σ H _ us Q I r ⟨p, vs, rfl, .inr (SqT.of hp), fun t ht => ?_⟩
    obtain ⟨b1, b2, b3⟩ := new_lst a1 ht gp
    exact q _ _ _ b2 b1 b3
  | [.frz ns], e =>
    cases e
    obtain ⟨x, rfl, p, rfl, hp⟩ := Rs1 ra
    refine call_list_of pins s σ H _ us Q I r ⟨p, _, rfl, .inl hp.sq, fun t ht => ?_⟩
    obtain ⟨b1, b2, b3⟩ := new_lst a1 ht (ints_rel ns)
    exact q _ _ _ b2 b1 b3
theorem c_all (hc : X.calm = true) : CallR X (.builtin "all") (rDN G (bltD .all)) := by
  obtain ⟨K, W, cls, fld, Wx, hk⟩ := G
  cases hK
  cases hw
  intro pins s σ H xs us Q I r ⟨m, h, as, d, h', a1, ra, e, q⟩
  match as, e with
  | [.ref i], e =>
    simp only [bltD] at e
    split at e
    · rename_i ds ex
      obtain ⟨bs, e1, e2⟩ := map_some e
      cases e2
      obtain ⟨x, rfl, g⟩ := Rs1 ra
      obtain ⟨p, vs, rfl, mp, hp, gp⟩ := ref_lst a1 g ex
      have ev := bools_rel e1 gp
      subst ev
      exact cr_all hc pins s σ H _ us Q I r ⟨p, bs, rfl, SqL.of hp, q m H _ (Ext.refl _ _) a1 rfl⟩
    · cases e
theorem c_any (hc : X.calm = true) : CallR X (.builtin "any") (rDN G (bltD .any)) := by
  obtain ⟨K, W, cls, fld, Wx, hk⟩ := G
  cases hK
  cases hw
  intro pins s σ H xs us Q I r ⟨m, h, as, d, h', a1, ra, e, q⟩
  match as, e with
  | [.ref i], e =>
    simp only [bltD] at e
    split at e
    · rename_i ds ex
      obtain ⟨bs, e1, e2⟩ := map_some e
      cases e2
      obtain ⟨x, rfl, g⟩ := Rs1 ra
      obtain ⟨p, vs, rfl, mp, hp, gp⟩ := ref_lst a1 g ex
      have ev := bools_rel e1 gp
      subst ev
      exact cr_any hc pins s σ H _ us Q I r ⟨p, bs, rfl, SqL.of hp, q m H _ (Ext.refl _ _) a1 rfl⟩
    · cases e
theorem c_ord : CallR X (.builtin "ord") (rDN G (bltD .ord)) := by
  obtain ⟨K, W, cls, fld, Wx, hk⟩ := G
  cases hK
  cases hw
  intro pins s σ H xs us Q I r ⟨m, h, as, d, h', a1, ra, e, q⟩
  match as, e with
  | [.str i], e =>
    simp only [bltD] at e
    split at e
    · rename_i hz
      cases e
      obtain ⟨x, rfl, g⟩ := Rs1 ra
      rw [show x = _ from g] at r
      exact call_ord pins s σ H _ us Q I r ⟨i, rfl, hz, q m H _ (Ext.refl _ _) a1 rfl⟩
    · cases e
theorem c_min (hc : X.calm = true) : CallR X (.builtin "min") (rDN G (bltD .min)) := by
  obtain ⟨K, W, cls, fld, Wx, hk⟩ := G
  cases hK
  cases hw
  intro pins s σ H xs us Q I r ⟨m, h, as, d, h', a1, ra, e, q⟩
  match as, e with
  | [.int i, .int j], e =>
    cases e
    obtain ⟨x, y, rfl, g, g2⟩ := Rs2 ra
    rw [show x = _ from g, show y = _ from g2] at r
    exact call_min2 hc pins s σ H _ us Q I r ⟨i, j, rfl, q m H _ (Ext.refl _ _) a1 rfl⟩
theorem c_max (hc : X.calm = true) : CallR X (.builtin "max") (rDN G (bltD .max)) := by
  obtain ⟨K, W, cls, fld, Wx, hk⟩ := G
  cases hK
  cases hw
  intro pins s σ H xs us Q I r ⟨m, h, as, d, h', a1, ra, e, q⟩
  match as, e with
  | [.int i, .int j], e =>
    cases e
    obtain ⟨x, y, rfl, g, g2⟩ := Rs2 ra
    rw [show x = _ from g, show y = _ from g2] at r
    exact call_max2 hc pins s σ H _ us Q I r ⟨i, j, rfl, q m H _ (Ext.refl _ _) a1 rfl⟩
  | [.ref j], e =>
    simp only [bltD] at e
    split at e
    · rename_i ds ex
      split at e
      · rename_i x r' ei
        cases e
        obtain ⟨u, rfl, gu⟩ := Rs1 ra
        obtain ⟨p, vs, rfl, mp, hp, gp⟩ := ref_lst a1 gu ex
        have ev := ints_rel2 ei gp
        subst ev
        obtain ⟨f1, f2⟩ := fold_max r' x
        refine cr_max hc pins s σ H _ us Q I r ⟨p, x :: r', rfl, SqL.of hp, Nat.succ_pos _, fun mx m1 m2 => ?_⟩
        have : mx = maxL (x :: r') := by
          have a := m2 _ f1
          have b := f2 _ m1
          show mx = r'.foldl _ x
          omega
        rw [this]
        exact q m H _ (Ext.refl _ _) a1 rfl
      · cases e
    · cases e
theorem c_repr (hu : X.A.units + 100 < cLine) (hg : X.A.guards = some []) : CallR X (.builtin "repr") (rDN G (bltD .repr)) := by
  obtain ⟨K, W, cls, fld, Wx, hk⟩ := G
  cases hK
  cases hw
  intro pins s σ H xs us Q I r ⟨m, h, as, d, h', a1, ra, e, q⟩
  have core : ∀ (a : D) (x : V) (p : Addr) (t : PyData), x = .ref p → as = [a] → RelD X.K X.w m H a x → xs = [x] → toPy h 20 a = some t → (if reprOk t then some (D.str t.shown, h) else none) = some (d, h') →
      wpAny (model X.prog X.w) X.A (call (.builtin "repr") us) (EP X pins σ Q) X.xe s := by
    intro a x p t ex ea ga exs et e
    subst ex exs
    split at e
    · rename_i hz
      cases e
      unfold reprOk at hz
      simp only [Bool.and_eq_true, Bool.not_eq_true', decide_eq_true_eq] at hz
      obtain ⟨⟨⟨z1, z2⟩, z3⟩, z4⟩ := hz
      obtain ⟨u, rfl, ru⟩ := vals1 r
      obtain ⟨rs, rr⟩ := Dp.reads I t _ u (toPy_dp a1 20 a _ t et ga) ru
      cases ru
      refine repr_of_reads' rr z1 (fun z => by rw [z2] at z; cases z) hg (by omega) (fun b o e => e) (fun hh uu tk k => ⟨.str t.shown, H, I.kept k, ⟨_, rfl⟩, q m H _ (Ext.refl _ _) a1 rfl⟩) ?_
      have := Z_eq
      omega
    · cases e
  match as, e, core with
  | [.ref i], e, core =>
    simp only [bltD] at e
    obtain ⟨x, rfl, p, mp, rfl⟩ := Rs1 ra
    split at e
    · rename_i t et
      exact core _ _ p t rfl rfl ⟨p, mp, rfl⟩ rfl et e
    · cases e
  | [.tup i], e, core =>
    simp only [bltD] at e
    obtain ⟨x, rfl, p, vs, rfl, gp⟩ := Rs1 ra
    split at e
    · rename_i t et
      exact core _ _ p t rfl rfl ⟨p, vs, rfl, gp⟩ rfl et e
    · cases e
end
end Dd

set_option Elab.async false
set_option linter.all false
set_option maxRecDepth 100000
set_option maxHeartbeats 4000000
namespace Dd
open PySem PySem.Spec PyProof.Rows L2

/-- a method by values -/
def rDM (G : Pc) (f : D → List D → DH → Option (D × DH)) : V → List V → Hp → VK → Prop := fun x xs H Q =>
  ∃ m h a as d h', G.H m h H ∧ G.R m H a x ∧ G.Rs m H as xs ∧ f a as h = some (d, h') ∧ ∀ m' H' v, Ext m H m' H' → G.H m' h' H' → G.R m' H' d v → Q v H'
section
variable {X : Cx} {G : Pc} (hK : X.K = G.K) (hw : X.w = G.w)
include hK hw
theorem m_append : MtR X "list.append" (rDM G (mthD .append)) := by
  obtain ⟨K, W, cls, fld, Wx, hk⟩ := G
  cases hK
  cases hw
  intro pins s σ H x xs v us Q I rx rs ⟨m, h, a, as, d, h', a1, ra, ras, e, q⟩
  match a, as, e with
  | .ref i, [y], e =>
    simp only [mthD] at e
    split at e
    · rename_i ds ex
      split at e
      · rename_i hz
        cases e
        obtain ⟨p, vs, rfl, mp, hp, gp⟩ := ref_lst a1 ra ex
        obtain ⟨u, rfl, gu⟩ := Rs1 ras
        refine mt_append pins s σ H _ _ v us Q I rx rs ⟨p, vs, u, rfl, rfl, hp, by rw [gp.length, ← Z_eq]; exact hz, ?_⟩
        obtain ⟨b1, b2⟩ := a1.write (ob := .lst (ds ++ [y])) (o := .lst (vs ++ [u])) mp ⟨_, rfl, gp.append (RelDs.one gu)⟩
        exact q _ _ _ b2 b1 rfl
      · cases e
    · cases e
theorem m_extend : MtR X "list.extend" (rDM G (mthD .extend)) := by
  obtain ⟨K, W, cls, fld, Wx, hk⟩ := G
  cases hK
  cases hw
  intro pins s σ H x xs v us Q I rx rs ⟨m, h, a, as, d, h', a1, ra, ras, e, q⟩
  match a, as, e with
  | .ref i, [.ref j], e =>
    simp only [mthD] at e
    split at e
    · rename_i ds es ex ey
      split at e
      · rename_i hz
        cases e
        obtain ⟨p, vs, rfl, mp, hp, gp⟩ := ref_lst a1 ra ex
        obtain ⟨u, rfl, gu⟩ := Rs1 ras
        obtain ⟨p', vs', rfl, mp', hp', gp'⟩ := ref_lst a1 gu ey
        refine mt_extend pins s σ H _ _ v us Q I rx rs ⟨p, p', vs, vs', rfl, rfl, hp, hp', by rw [gp.length, gp'.length, ← Z_eq]; exact hz, ?_⟩
        obtain ⟨b1, b2⟩ := a1.write (ob := .lst (ds ++ es)) (o := .lst (vs ++ vs')) mp ⟨_, rfl, gp.append gp'⟩
        exact q _ _ _ b2 b1 rfl
      · cases e
    · cases e
theorem m_pop : MtR X "list.pop" (rDM G (mthD .pop)) := by
  obtain ⟨K, W, cls, fld, Wx, hk⟩ := G
  cases hK
  cases hw
  intro pins s σ H x xs v us Q I rx rs ⟨m, h, a, as, d, h', a1, ra, ras, e, q⟩
  match a, as, e with
  | .ref i, [], e =>
    simp only [mthD] at e
    split at e
    · rename_i ds ex
      split at e
      · rename_i z hz
        cases e
        obtain ⟨p, vs, rfl, mp, hp, gp⟩ := ref_lst a1 ra ex
        rw [List.getLast?_eq_getElem?] at hz
        obtain ⟨y, g1, g2⟩ := gp.get hz
        refine mt_pop pins s σ H _ _ v us Q I rx rs ⟨p, vs, y, rfl, ras, hp, by rw [gp.length]; exact g1, ?_⟩
        have gd : RelDs X.K X.w m H ds.dropLast vs.dropLast := by
          rw [List.dropLast_eq_take, List.dropLast_eq_take, gp.length]
          exact gp.take _
        obtain ⟨b1, b2⟩ := a1.write (ob := .lst ds.dropLast) (o := .lst vs.dropLast) mp ⟨_, rfl, gd⟩
        exact q _ _ _ b2 b1 (g2.ext b2)
      · cases e
    · cases e
theorem m_join : MtR X "str.join" (rDM G (mthD .join)) := by
  obtain ⟨K, W, cls, fld, Wx, hk⟩ := G
  cases hK
  cases hw
  intro pins s σ H x xs v us Q I rx rs ⟨m, h, a, as, d, h', a1, ra, ras, e, q⟩
  match a, as, e with
  | .str z, [.ref j], e =>
    simp only [mthD] at e
    split at e
    · rename_i ds ex
      split at e
      · rename_i ys ey
        split at e
        · rename_i hz
          cases e
          rw [show x = _ from ra] at rx
          obtain ⟨u, rfl, gu⟩ := Rs1 ras
          obtain ⟨p, vs, rfl, mp, hp, gp⟩ := ref_lst a1 gu ex
          have ev := txts_rel ey gp
          subst ev
          exact mt_join pins s σ H _ _ v us Q I rx rs ⟨z, p, ys, rfl, rfl, .inl (SqL.of hp), hz, q m H _ (Ext.refl _ _) a1 (by rw [TL.join_eq]; rfl)⟩
        · cases e
      · cases e
    · cases e
end
end Dd

set_option Elab.async false
set_option linter.all false
set_option maxRecDepth 100000
set_option maxHeartbeats 4000000
namespace Dd
open PySem PySem.Spec PyProof.Rows L2

/-! # 11. Calls: a def's word, with the guards told -/
def FnG (P : Program) (w : World) (K : PySem.W.Frag) (mg : Str → Option Value) (base : Heap) (n : Nat) (f : Addr) (sp : Sp) : Prop :=
  ∀ (A : Around) (outer : List Env) (s : Shared) (H : Hp) (us : List Value) (vs : List V) (Q : VK) (E : XK), Room n A → A.guards = some [] → Env0 P w K mg base A outer s H → Vals vs us → sp vs H Q E →
    codeAny (model P w) A (.call (.ref f) ⟨us, []⟩) (CR (L2.CX P w) outer P w H s Q E) s
theorem pe_callG {X : Cx} {W : WX} {n : Nat} {f : Addr} {sp : Sp} {x : Str} {p pos : Pos} {e : Expr} {es : List Expr} {t : TA} (F : FnG X.prog X.w X.K X.mg X.base n f sp) (hr : Room n X.A) (hgd : X.A.guards = some [])
    (hg : Gl X x) (hm : X.mg x = some (.ref f)) (hk : PySem.W.keepIn X.K (.ref f) = true) (tk : Takes X W) (ha : PA X (e :: es) t) (hdb : (x == ("__debug__" : Str)) = false)
    (he : starEach (e :: es) X.env = (false, eval e X.env) :: starEach es X.env) (hpl : (backTo pos (starEach es X.env)).any (·.1) = false) : PE X (.Call (.Name x p) (e :: es) [] pos) (tCallS sp (WE W) t) := by
  refine ⟨fun pins s σ H Q I h => wpAny_Call_Name_kw (ld_glob I hg hm ?_ hdb)⟩
  refine PySem.W.callWith_K (h₀ := X.base) I.ok.mod.kin hk (thn (ha.run pos pins s σ H _ I h) fun us s1 hh => ?_) he hpl
  obtain ⟨vs, H1, I1, r, q⟩ := hh
  refine ⟨I1.kIn, wpAny_call (codeAny_mono (F X.A X.stack s1 H1 us vs Q (WE W σ) hr hgd I1.env0 r q) fun res s' hq => ?_)⟩
  cases res with
  | error u => exact passAt tk σ pins H1 s1 u s' I1 hq
  | ok fl =>
    cases fl with
    | ret u => exact I1.after hq
    | next => exact (show False from hq).elim
    | brk => exact (show False from hq).elim
    | cont => exact (show False from hq).elim
/-- a def of the text by its body -/
theorem fnG_of {P : Program} {w : World} {K : PySem.W.Frag} {mg : Str → Option Value} {base : Heap} {n : Nat} {f : Addr} {fd : FuncData} {x : Str} {st : Stmt} {N ps : List Str} {sp : Sp}
    (F : Fun K x x st f fd) (S : FnScope N ps (defScope st)) (hb : Binds K fd ps []) (len : ∀ vs H Q E, sp vs H Q E → vs.length = ps.length)
    (body : ∀ (cdv : Value) (A : Around) (outer : List Env) (s : Shared) (H : Hp) (vs : List V) (Q : VK) (E : XK), Room n (A.deeper (envOfC x (defScope st) s.heap.objs.size f cdv)) → A.guards = some [] → sp vs H Q E →
      ∃ t, PSs (cxOf (L2.CX P w) P w K mg base N x (defScope st) f cdv A outer s H E) (defBody st) t ∧ t { nx := fun _ H' => Q .non H', rt := Q } (start N vs) H) :
    FnG P w K mg base (n + 1) f sp := by
  obtain ⟨oc, od, kV, doc, pm, an, cdv, ct, osl, rfl, lk, hcd⟩ := F.ex
  intro A outer s H us vs Q E hr hg e0 r hsp
  have hl := len _ _ _ _ hsp
  have kin : K.In s.heap := e0.mod.kin.keeps fun b o e => (e0.bs b o e).1
  have hlim : s.heap.NoLimit := e0.mod.nolimit.keeps fun b o e => (e0.bs b o e).1
  have hbind := hb s us kin (by rw [List.append_nil, ← r.length]; exact hl)
  rw [List.append_nil] at hbind
  have kinds : ∀ y ∈ ps.zip us, (defScope st).names.lookup y.1 = some .local ∨ ((defScope st).names.lookup y.1 = some .cell ∧ ((cellsFrom (s.heap.objs.size + 1) (defScope st).names []).lookup y.1).isSome = true) := by
    rintro ⟨z, v⟩ hy
    rcases S.par z (List.of_mem_zip hy).1 with q | q
    · exact .inl q
    · exact .inr ⟨q, PySem.W.cellsFrom_some _ _ _ (.inl q)⟩
  refine codeAny_call_function hr.depth (kin _ _ lk) rfl S.co S.gen rfl (PySem.W.codeRec_of kin hcd) (hbind _ _ _ _ ?_)
  refine wpAny_newFunctionEnv_cells S.kind kinds fun env he s1 z => ?_
  cases he
  refine ⟨hlim.keeps z.toInCall.keep, codeAny_func ?_⟩
  obtain ⟨t, ht, hq⟩ := body cdv A outer s H vs Q E (hr.deeper _) hg hsp
  have J : L2.Inv (cxOf (L2.CX P w) P w K mg base N x (defScope st) f cdv A outer s H E) [] (start N vs) H s1 := inv_start S hr.hd e0 hl r z
  refine wpAny_mono (ht.run [] s1 (start N vs) H _ J hq) (fun fl s' hs => ?_) fun _ _ he => he
  cases fl with
  | ret u =>
    obtain ⟨v, σ2, H2, J2, rv, q2⟩ := hs
    exact ⟨v, H2, J2.os, J2.bare, J2.base, J2.hok, rv, q2⟩
  | next =>
    obtain ⟨σ2, H2, J2, q2⟩ := hs
    exact ⟨V.non, H2, J2.os, J2.bare, J2.base, J2.hok, rfl, q2⟩
  | brk => exact (show False from hs.choose_spec.choose_spec.2).elim
  | cont => exact (show False from hs.choose_spec.choose_spec.2).elim
/-- the head: the script's list, frozen; then the law's own word -/
theorem law_callG {P : Program} {w : World} {K : PySem.W.Frag} {mg mb : Str → Option Value} {n : Nat} {fa a : Addr} {sp : Sp} {s1 : Shared} {vs : List Value} {ns : List Int}
    (KX : K.In s1.heap) (hns : s1.heap.Ns mainGlobals mg) (hb : s1.heap.Ns builtinsNs mb) (hbb : ∀ x : Str, x ≠ "__name__" → mb x = bootBuiltins x) (lim : s1.heap.NoLimit) (hg : s1.gens = #[])
    (ha : s1.heap.get? a = some { cls := .type "list", data := .seq vs.toArray }) (hi : IntsAre vs ns) (hl : ns.length ≤ sizeLine) (hr : Room n callerA)
    (F : ∀ base : Heap, K.In base → base.Ns mainGlobals mg → FnG P w K mg base n fa sp)
    (hsp : ∀ H : Hp, Only H → FrzL K H a (ns.map V.int) → sp [.ref a] H (fun v _ => v = .bl true) fun _ _ _ => False) :
    codeAny (model P w) callerA (.call (.ref fa) ⟨[.ref a], []⟩) (fun r s' => r = .ok (.ret (.bool true)) ∧ OldK s1.heap s'.heap ∧ s'.os = s1.os ∧ AllBare s'.gens) s1 := by
  have rv := vals_ints hi
  have hlen := hi.length
  have core : ∀ H : Hp, Only H → FrzL K H a (ns.map V.int) → HOk P w H s1.heap → (∀ b, H b ≠ none → b = a) → (H a ≠ none → K.lookup a = none) →
      codeAny (model P w) callerA (.call (.ref fa) ⟨[.ref a], []⟩) (fun r s' => r = .ok (.ret (.bool true)) ∧ OldK s1.heap s'.heap ∧ s'.os = s1.os ∧ AllBare s'.gens) s1 := by
    intro H hO hS hok only kno
    have isA : ∀ {b : Addr} {u : HO}, H b = some u → b = a := fun {b u} e => only b (by rw [e]; exact fun z => nomatch z)
    have noDict : ∀ {b : Addr} {o : Obj} {es : Array DictEntry} {ep : Nat}, s1.heap.get? b = some o → o.data = .dict es ep → H b = none := by
      intro b o es ep e d
      cases q : H b with
      | none => rfl
      | some u =>
        cases isA q
        rw [ha] at e; cases e
        exact nomatch (show Data.seq vs.toArray _ = Data.dict es ep from d)
    have keepNs : ∀ {b : Addr} {m : Str → Option Value}, s1.heap.Ns b m → (hidT s1.heap H).Ns b m := by
      rintro b m ⟨o, es, ep, e, d, r⟩
      exact ⟨o, es, ep, hidT_get e (noDict e d), d, r⟩
    have kin : K.In (hidT s1.heap H) := by
      intro b o e
      refine hidT_get (KX b o e) ?_
      cases q : H b with
      | none => rfl
      | some u =>
        cases isA q
        rw [kno (by rw [q]; exact fun z => nomatch z)] at e
        cases e
    have hM : Mod K mg (hidT s1.heap H) := by
      obtain ⟨mc, l1, l2⟩ := lim
      exact ⟨kin, keepNs hns, ⟨mb, keepNs hb, hbb⟩, mc, keepNs l1, l2⟩
    have e0 : Env0 P w K mg (hidT s1.heap H) callerA [] s1 H :=
      ⟨rfl, hM, fun b o e => of_hidT e, Nat.le_of_eq (hidT_size _ _), trivial, fun b hb => (nomatch (show b ∈ ([] : List Addr) from hb)), hok, .of_eq hg⟩
    refine codeAny_mono (F _ kin (keepNs hns) callerA [] s1 H [.ref a] [.ref a] _ _ hr rfl e0 (.cons rfl .nil) (hsp H hO hS)) fun r s' h => ?_
    match r, h with
    | .error e, h =>
      obtain ⟨_, _, _, _, _, _, _, _, _, _, _, _, z⟩ := h
      exact z.elim
    | .ok .next, h => exact (show False from h).elim
    | .ok .brk, h => exact (show False from h).elim
    | .ok .cont, h => exact (show False from h).elim
    | .ok (.ret u), h =>
      obtain ⟨v, H', os, bare, un, hok', r', q⟩ := h
      cases (show v = .bl true from q)
      cases (show u = Value.bool true from r')
      refine ⟨rfl, OldK.of_keep fun b o e => ?_, os, bare⟩
      cases q : H b with
      | none => exact un.keep b o e q (fun z => nomatch (show b ∈ ([] : List Addr) from z)) (fun z => nomatch z)
      | some u =>
        rcases hO b with z | ⟨ob, xs, z⟩
        · rw [q] at z; cases z
        · have e1 := (hok b _ z).1
          have e2 := (hok' b _ (un.frzs b ob _ z)).1
          rw [e] at e1; cases e1
          exact e2
  cases hk : K.lookup a with
  | some o =>
    have e := KX a o hk
    rw [ha] at e
    cases e
    exact core (fun _ => none) (fun _ => .inl rfl) (.inr ⟨_, vs.toArray, _, hk, rfl, rfl, rfl, by rw [List.size_toArray, hlen]; exact hl, by simpa using rv⟩) (fun b u z => nomatch z) (fun b z => absurd rfl z) (fun z => absurd rfl z)
  | none =>
    have one : ∀ b, (if b = a then some (HO.frz { cls := .type "list", data := .seq vs.toArray } (.lst (ns.map V.int))) else none) = none ∨ b = a := fun b => by
      by_cases hb : b = a
      · exact .inr hb
      · exact .inl (if_neg hb)
    refine core (fun b => if b = a then some (.frz { cls := .type "list", data := .seq vs.toArray } (.lst (ns.map V.int))) else none) (fun b => ?_) (.inl ⟨_, if_pos rfl⟩) (fun b u z => ?_) (fun b z => (one b).resolve_left z) (fun _ => hk)
    · rcases one b with h | h
      · exact .inl h
      · exact .inr ⟨_, _, if_pos h⟩
    · rcases one b with h | h
      · exact nomatch (h.symm.trans z)
      · subst h
        have z' := (if_pos rfl).symm.trans z
        cases z'
        exact ⟨ha, by rw [List.length_map]; exact hl, vs, _, rv, ha⟩
/-- the goal that the head leaves -/
theorem walkG {l : PySem.W.OpenLaw} {n k : Nat} {q : Program} {loose : List Str} {XP : (Str → Option Value) → Heap → Prop} {YP : World → Heap → Prop} {d : DefRec} {K : Params → PySem.W.Frag} {sp : World → Sp}
    (hn : l.most = some n) (hn2 : n ≤ sizeLine) (hdf : d.params.defaults = []) (hr : Room k callerA) (hY : ∀ (w : World) (h : Heap), YP w h → (K w.params).In h)
    (F : ∀ (w : World) (mg : Str → Option Value) (fa : Addr) (h : Heap), (K w.params).In h → h.Ns mainGlobals mg → mg d.name = some (.ref fa) →
      ∀ base : Heap, (K w.params).In base → base.Ns mainGlobals mg → FnG l.prog w (K w.params) mg base k fa (sp w))
    (hsp : ∀ (w : World) (H : Hp) (a : Addr) (ns : List Int), ns.length ≤ n → Only H → FrzL (K w.params) H a (ns.map V.int) → sp w [.ref a] H (fun v _ => v = .bl true) fun _ _ _ => False) :
    PySem.W.WalkO q loose XP YP l.row.toRowW d [] (fun f vs => PySem.call f vs) := by
  refine Att.attach_call hn hdf fun w s₀ s₁ mg mb fa o pm cd doc a vs ns G Y ho hd hcd hmg hobj hints hlen hg => ?_
  have KX := hY w _ Y
  exact law_callG KX G.T.g G.T.b G.T.builtins G.T.nolimit hg hobj hints (Nat.le_trans hlen hn2) hr (F w mg fa _ KX G.T.g hmg) (fun H hO hS => hsp w H a ns hlen hO hS)
end Dd

set_option Elab.async false
set_option linter.all false
set_option maxRecDepth 100000
set_option maxHeartbeats 4000000
/-! # 12. Own errors with one field -/
namespace PySem
namespace OWhy
open PySem.W PySem.Calls PyProof.Rows PySem.HandSPX
/-! ### the text of __init__ -/
def iA (p1 p2 : Pos) : Arguments := { posonlyargs := [], args := [{ arg := "self", annotation := none, pos := p1 }, { arg := "why", annotation := none, pos := p2 }], vararg := none, kwonlyargs := [], kw_defaults := [], kwarg := none, defaults := [] }
def iB (q1 q2 q3 q4 : Pos) : List Stmt := [.Assign [.Attribute (.Name "self" q1) "why" q2] (.Name "why" q3) q4]
def iS : Scope := { kind := .function, names := [(PySem.Str.ofString "self", .local), (PySem.Str.ofString "why", .local)], isGenerator := false, isCoroutine := false, more := [] }
/-- what the written part says of Low, at C, and of its __init__, at fI -/
structure OTxt (K : Frag) (mg : Str → Option Value) (x : Str) (C fI : Addr) : Prop where
  gC : mg x = some (.ref C)
  cls : ∃ nm q N bs bm sn sub ab col dd k0 k1 k2 k3 k5, K.lookup C = some (excClassObj nm q C N bs bm true sn sub ab col dd k0 k1 k2 k3 k5 "ValueError.__new__") ∧ refsVE bm = true
  sa : findIn K (.ref C) "__setattr__" = some (some (.builtin "object.__setattr__"))
  ga : findIn K (.ref C) "__getattribute__" = some (some (.builtin "BaseException.__getattribute__"))
  gg : findIn K (.ref C) "__getattr__" = some none
  noN : findIn K (.ref C) "why" = some none
  iC : findIn K (.ref C) "__init__" = some (some (.ref fI))
  tC : typeIn K (.ref fI) = some (.type "function")
  kC : keepIn K (.ref C) = true
  exC : subIn K (.ref C) (.type "BaseException") = some true
  tyC : typeIn K (.ref C) = some (.type "type")
  hdC : hasDictIn K C = true
  te : exmOne K (.ref C) (.ref C) = some true
  fn : ∃ (qn : Str) (oc : Value) (od : Option Addr) (doc pm : Value) (an : Option Addr) (cdv ct : Value) (osl : Array (Option Value)) (p1 p2 q1 q2 q3 q4 : Pos),
    K.lookup fI = some ⟨oc, od, .func (fnOf "__init__" qn (iA p1 p2) (iB q1 q2 q3 q4) iS .none .none doc pm an cdv ct), osl⟩ ∧ codeIn K cdv qn = true
theorem one_size (v : Value) : [v].length ≤ sizeLine := by
  rw [sizeLine_eq]
  exact (by decide : 1 ≤ 16777216)
theorem kept_but {K : Frag} {h h' : Heap} {x : Addr} (X : K.In h) (hx : K.lookup x = none) (k : ∀ b o, b ≠ x → h.get? b = some o → h'.get? b = some o) : K.In h' := fun a o e =>
  k a o (fun z => by rw [z, hx] at e; cases e) (X a o e)
theorem ldC {M : Model} {s : Shared} {name : Str} {scope : Scope} {L a : Addr} {cd : Value} {m : Str → Option Value} {x : Str} {pos : Pos} {v : Value} {Q : Value → Shared → Prop} {A : Around} {E : Value → Shared → Prop} (hn : s.heap.Ns L m) (hv : m x = some v) (h : Q v s)
    (hk : scope.kind = .function := by rfl) (hl : (envOfC name scope L a cd).kindOf x = some .local := by rfl) (hd : (x == ("__debug__" : Str)) = false := by decide) :
    wpAny M A (eval (.Name x pos) (envOfC name scope L a cd)) Q E s := wpAny_Name (wpAny_loadName_local hk hl hn hv h) hd
/-- what __init__ leaves of a fresh exception at x -/
structure InitEnd (h h' : Heap) (x C dx t1 : Addr) (v : Value) : Prop where
  keep : ∀ b o, b ≠ x → h.get? b = some o → h'.get? b = some o
  obj : h'.get? x = some { cls := .ref C, dict := some dx, data := .fields #[.ref t1, .none, .none, .none, .bool false, .none] }
  dbig : h.objs.size ≤ dx
  dne : dx ≠ x
  ns : h'.Ns1 dx (fun y => if y = "why" then some v else none)
/-- a made Low -/
structure OwnMade (h h' : Heap) (e C d : Addr) (v : Value) : Prop where
  keep : ∀ b o, h.get? b = some o → h'.get? b = some o
  new : h.objs.size ≤ e
  obj : ∃ oe vs, h'.get? e = some oe ∧ oe.cls = .ref C ∧ oe.dict = some d ∧ oe.data = .fields vs ∧ vs[1]? = some .none
  dbig : h.objs.size ≤ d
  dne : d ≠ e
  ns : h'.Ns1 d (fun y => if y = "why" then some v else none)
section
variable {prog : Program} {w : World} {A : Around} {E : Value → Shared → Prop} {R : Result → Shared → Prop} {s : Shared} {K : Frag} {mg : Str → Option Value} {x0 : Str} {C fI : Addr}
theorem low_init (T : OTxt K mg x0 C fI) {x t0 : Addr} {v : Value} (X : K.In s.heap) (hlim : s.heap.NoLimit) (hx : s.heap.get? x = some (excO C t0)) (hnx : K.lookup x = none) (hroom : A.depth < recursionLimit)
    (hq : ∀ h' tk dx, InitEnd s.heap h' x C dx t0 v → R (.ok (.ret .none)) { s with heap := h', toks := tk }) :
    codeAny (model prog w) A (.call (.ref fI) ⟨[.ref x, v], []⟩) R s := by
  obtain ⟨qn, oc, od, doc, pm, an, cdv, ct, osl, p1, p2, q1, q2, q3, q4, ho, hcd⟩ := T.fn
  obtain ⟨nm, q, N, bs, bm, sn, sub, ab, col, dd, k0, k1, k2, k3, k5, hC, hbm⟩ := T.cls
  have hcl : clsIn K C = some { name := nm, bases := bs, mro := .ref C :: bm, ns := N, qualname := q, hasDict := true, slotNames := sn, subclasses := sub, abstract := ab, collection := col, hasDel := false } := by unfold clsIn; rw [hC] <;> rfl
  refine Att.call_fn (binds := [("self", .ref x), ("why", v)]) X hlim ho hcd hroom (BindsTo.of_eq (by first | rfl | with_unfolding_all rfl)) (by first | rfl | decide | with_unfolding_all rfl) (fun s₁ IC => ?_) rfl rfl rfl
  obtain ⟨h₁, tk₁, rfl⟩ := IC.toInCall.same
  have k : ∀ b o, s.heap.get? b = some o → h₁.get? b = some o := IC.toInCall.keep
  have hn := IC.toInCall.ns
  have hxL : s.heap.objs.size ≠ x := Nat.ne_of_gt (Heap.lt_size hx)
  have X₁ : K.In h₁ := X.keeps k
  have hx₁ := k _ _ hx
  -- self.by = by
  show wpAny _ _ (execs _ _) _ _ _
  refine wpAny_execs_cons (plainObj_wpAny_Assign_Attribute ?_)
  refine ldC (v := v) hn (by first | rfl | with_unfolding_all rfl | kernel_rfl) (ldC (v := .ref x) hn (by first | rfl | with_unfolding_all rfl | kernel_rfl) ?_)
  refine set_plain X₁ (ox := excO C t0) (od := none) ⟨hx₁, rfl, rfl, trivial⟩ T.sa ?_
  refine exc_osa X₁ hx₁ hcl (show refsVE (.ref C :: bm) = true from hbm) rfl T.noN (fun h₃ tk₃ dx k₃ dn dne hx₃ hn₃ => ?_)
  show wpAny _ _ (execs _ _) _ _ _
  have z : s.heap.objs.size < h₁.objs.size := hn.lt
  exact wpAny_execs_nil (hq h₃ tk₃ dx ⟨fun b o hb e => k₃ b o hb (k b o e), hx₃, Nat.le_of_lt (Nat.lt_of_lt_of_le z dn), dne, hn₃⟩)
theorem low_made (T : OTxt K mg x0 C fI) {v : Value} (X : K.In s.heap) (hlim : s.heap.NoLimit) (hroom : A.depth + 1 < recursionLimit)
    (hq : ∀ h' tk e d, OwnMade s.heap h' e C d v → R (.ok (.ret (.ref e))) { s with heap := h', toks := tk }) :
    codeAny (model prog w) A (.call (.ref C) ⟨[v], []⟩) R s := by
  obtain ⟨nm, q, N, bs, bm, sn, sub, ab, col, dd, k0, k1, k2, k3, k5, hC, hbm⟩ := T.cls
  obtain ⟨hp, g, dr, tk, os⟩ := s
  have k : ∀ b o, hp.get? b = some o → ((hp.push (kdv_tup [v])).push (excO C hp.objs.size)).get? b = some o := fun b o e => Heap.get?_push_of_some _ (Heap.get?_push_of_some _ e)
  have hget : ((hp.push (kdv_tup [v])).push (excO C hp.objs.size)).get? (hp.objs.size + 1) = some (excO C hp.objs.size) := by heap_get
  have hnx : K.lookup (hp.objs.size + 1) = none := by
    cases e : K.lookup (hp.objs.size + 1) with
    | none => rfl
    | some o =>
      have z : hp.get? (hp.objs.size + 1) = some o := X _ _ e
      exact absurd (Nat.lt_of_succ_lt (Heap.lt_size z)) (Nat.lt_irrefl _)
  refine call_own F.excBase_ValueError (fun X => refsVE_contains X bm hbm) (X _ _ hC) (looks_findIn X T.iC) (fun self => bind_fn X self T.tC) (one_size v) ?_
  refine low_init (s := ⟨(hp.push (kdv_tup [v])).push (excO C hp.objs.size), g, dr, tk, os⟩) T (X.keeps k) (hlim.keeps k) hget hnx ?_ fun h' tk' dx ⟨k', hx, dn, dne, hns⟩ => ?_
  · show A.depth + 1 < recursionLimit
    exact hroom
  · have old : ∀ b o, hp.get? b = some o → h'.get? b = some o := fun b o e => k' b o (Nat.ne_of_lt (Nat.lt_succ_of_lt (Heap.lt_size e))) (k b o e)
    have z : hp.objs.size + 1 + 1 ≤ dx := by
      first
        | (simpa only [Heap.size_push] using dn)
        | exact dn
        | (have q := dn; rw [Heap.size_push, Heap.size_push] at q; exact q)
    exact ⟨rfl, hq h' tk' (hp.objs.size + 1) dx ⟨old, Nat.le_succ _, ⟨_, _, hx, rfl, rfl, rfl, rfl⟩, Nat.le_trans (Nat.le_trans (Nat.le_succ _) (Nat.le_succ _)) z, dne, hns⟩⟩
end
end OWhy
end PySem
namespace L2
namespace OWhy
open PySem PySem.Spec PyProof.Rows
theorem relO_low {v : V} {v' : Value} (r : RelV v v') (f : Str) : RelO (List.lookup f [(("why" : Str), v)]) (if f = "why" then some v' else none) := by
  by_cases hw : f = "why"
  · subst hw
    rw [if_pos rfl]
    have q : List.lookup ("why" : Str) [(("why" : Str), v)] = some v := by simp [List.lookup]
    rw [q]
    exact r
  · rw [if_neg hw]
    have qw : (f == ("why" : Str)) = false := by simpa using hw
    have q2 : List.lookup f [(("why" : Str), v)] = none := by simp [List.lookup, qw]
    rw [q2]
    trivial
section
variable {X : Cx} {x0 : Str} {C fI : Addr}
/-- Low(e) -/
def tMkLow (C : Addr) (ta : TA) : St → Hp → XK → Prop := fun σ H Q => ta σ H fun vs H1 => ∃ v, vs = [v] ∧ ∀ d, H1 d = none → Q (.ref C) (some d) (upd H1 d (.xd [(("why" : Str), v)]))
theorem pmk_low {a : Expr} {ta : TA} {p pos : Pos} {k : Nat} (T : PySem.OWhy.OTxt X.K X.mg x0 C fI) (hr : Room k X.A) (ha : PA X [a] ta) (hg : Gl X x0) (hdb : (x0 == ("__debug__" : Str)) = false)
    (he : starEach (a :: []) X.env = (false, eval a X.env) :: starEach [] X.env := by rfl) (hpl : (backTo pos (starEach [] X.env)).any (·.1) = false := by rfl) :
    PMk X (.Call (.Name x0 p) [a] [] pos) (tMkLow C ta) := by
  intro pins s σ H Q I h
  refine wpAny_Call_Name_kw (ld_glob I hg T.gC ?_ hdb)
  refine PySem.W.callWith_K (h₀ := X.base) I.ok.mod.kin T.kC (thn (ha.run pos pins s σ H _ I h) fun us s1 hh => ?_) he hpl
  obtain ⟨vs, H1, I1, r1, v, ev, q1⟩ := hh
  subst ev
  refine ⟨I1.kIn, ?_⟩
  cases r1 with
  | cons rv rn =>
    rename_i v' us'
    cases rn
    show wpAny _ _ (call (.ref C) [v']) _ _ _
    have hlim := I1.nolimit
    obtain ⟨hp, g, dr, tk, os⟩ := s1
    refine wpAny_call (PySem.OWhy.low_made T I1.kIn hlim (by have := hr.dp; omega) fun h' tk' e d M => ?_)
    show MkP X pins σ Q (.ref e) ⟨h', g, dr, tk', os⟩
    obtain ⟨oe, fv, hoe, hc, hd, hdat, h1⟩ := M.obj
    have hns := M.ns
    obtain ⟨G', g1, g2⟩ := restrict h' fun b => decide (b ≠ e)
    have gk : ∀ b, b ≠ e → G'.get? b = h'.get? b := fun b hb => g1 b (decide_eq_true hb)
    have ge : G'.get? e = none := g2 e (by simp)
    have old : ∀ b o, hp.get? b = some o → G'.get? b = some o := fun b o q => (gk b (Nat.ne_of_lt (Nat.lt_of_lt_of_le (Heap.lt_size q) M.new))).trans (M.keep b o q)
    have ob : ObjOk X.prog X.w (upd H1 d (.xd [(("why" : Str), v)])) G' d (.xd [(("why" : Str), v)]) :=
      ⟨_, hns.at (fun o q => (gk d M.dne).trans q), fun f => relO_low rv f⟩
    have J : Inv X pins σ (upd H1 d (.xd [(("why" : Str), v)])) ⟨G', g, dr, tk', os⟩ := I1.laid (t' := tk') old M.dbig ob
    refine ⟨e, oe, fv, ⟨G', g, dr, tk', os⟩, _, .ref C, some d, rfl, J, fun b o q => ?_, ge, hoe, ⟨hc, hd⟩, hdat, h1, ?_, rfl, I1.bare, raises_own T.exC T.tyC, q1 d (I1.hok.fresh M.dbig)⟩
    · by_cases hb : b = e
      · have q' : G'.get? b = some o := q
        rw [hb, ge] at q'; cases q'
      · exact (gk b hb).symm.trans q
    · rw [upd_ne (Ne.symm M.dne)]
      exact I1.hok.fresh M.new
/-- raise Low(e) -/
def tRaiseLow (C : Addr) (W : WX) (ta : TA) : TS := fun _ σ H => tMkLow C ta σ H fun cls d H' => W cls d σ H'
theorem ps_raiseLow {a : Expr} {ta : TA} {W : WX} {p pos pos2 : Pos} {k : Nat} (hc : X.calm = true) (T : PySem.OWhy.OTxt X.K X.mg x0 C fI) (hr : Room k X.A) (tk : Takes X W) (ha : PA X [a] ta) (hg : Gl X x0) (hdb : (x0 == ("__debug__" : Str)) = false)
    (he : starEach (a :: []) X.env = (false, eval a X.env) :: starEach [] X.env := by rfl) (hpl : (backTo pos (starEach [] X.env)).any (·.1) = false := by rfl) :
    PS X (.Raise (some (.Call (.Name x0 p) [a] [] pos)) none pos2) (tRaiseLow C W ta) := ps_raise hc tk (pmk_low T hr ha hg hdb he hpl)
/-- low.by, low the exception that the suite holds (at a; its class cls, its dict d) -/
def tByLow (C : Addr) (a : Addr) (cls : Value) (d : Option Addr) (te : TE) : TE := fun σ H Q => te σ H fun x H1 => x = .ref a ∧ cls = .ref C ∧ ∃ (dd : Addr) (v : V), d = some dd ∧ H1 dd = some (.xd [(("why" : Str), v)]) ∧ Q v H1
theorem pe_byLow {a : Addr} {oe : Obj} {cls : Value} {d : Option Addr} {pn : List (Addr × Obj)} {e : Expr} {te : TE} {pos : Pos} (T : PySem.OWhy.OTxt X.K X.mg x0 C fI) (hz : Zc cls d oe) (hf : ∃ vs, oe.data = .fields vs) (he : PE (X.suite a ((a, oe) :: pn)) e te)
    (hb : attributeBase e "why" X.env (eval e X.env) = eval e X.env := by rfl) :
    PE (X.suite a ((a, oe) :: pn)) (.Attribute e "why" pos) (tByLow C a cls d te) := by
  refine ⟨fun pins s σ H Q I h => ?_⟩
  refine attr_of hb (thn (he.run pins s σ H _ I h) fun u s1 hh => ?_)
  obtain ⟨x, H1, I1, rx, ex, ec, dd, v, ed, ea, q⟩ := hh
  subst ex
  obtain rfl : u = Value.ref a := rx
  subst ec
  subst ed
  obtain ⟨ha, _⟩ := I1.pin (a, oe) (List.mem_append_left _ List.mem_cons_self)
  obtain ⟨vs, hd⟩ := hf
  have hx : ObjOk X.prog X.w H1 s1.heap dd (.xd [(("why" : Str), v)]) := I1.hok dd _ ea
  obtain ⟨mA, hns, hr⟩ := hx
  obtain ⟨od, ho, hl⟩ := lookIn_ns hns
  have l : List.lookup ("why" : Str) [(("why" : Str), v)] = some v := by simp [List.lookup]
  obtain ⟨u, hu, ru⟩ := RelO.some_of (v := v) (o := mA "why") (by rw [← l]; exact hr "why")
  have J : PySem.W.InstAt s1.heap a oe C (some od) := ⟨ha, hz.1, by unfold PySem.W.notCls; rw [hd] <;> rfl, by rw [hz.2]; exact ho⟩
  exact HandSPX.exc_get I1.kIn J T.ga T.gg T.exC (PySem.W.findObj_own T.hdC T.noN rfl (by rw [hl, hu])) (handed_of ru) ⟨v, H1, I1.tok _, ru, q⟩
end
end OWhy
end L2
namespace PySem
namespace OPath
open PySem.W PySem.Calls PyProof.Rows PySem.HandSPX
/-! ### the text of __init__ -/
def iA (p1 p2 : Pos) : Arguments := { posonlyargs := [], args := [{ arg := "self", annotation := none, pos := p1 }, { arg := "path", annotation := none, pos := p2 }], vararg := none, kwonlyargs := [], kw_defaults := [], kwarg := none, defaults := [] }
def iB (q1 q2 q3 q4 : Pos) : List Stmt := [.Assign [.Attribute (.Name "self" q1) "path" q2] (.Name "path" q3) q4]
def iS : Scope := { kind := .function, names := [(PySem.Str.ofString "self", .local), (PySem.Str.ofString "path", .local)], isGenerator := false, isCoroutine := false, more := [] }
/-- what the written part says of Low, at C, and of its __init__, at fI -/
structure OTxt (K : Frag) (mg : Str → Option Value) (x : Str) (C fI : Addr) : Prop where
  gC : mg x = some (.ref C)
  cls : ∃ nm q N bs bm sn sub ab col dd k0 k1 k2 k3 k5, K.lookup C = some (excClassObj nm q C N bs bm true sn sub ab col dd k0 k1 k2 k3 k5 "ValueError.__new__") ∧ refsVE bm = true
  sa : findIn K (.ref C) "__setattr__" = some (some (.builtin "object.__setattr__"))
  ga : findIn K (.ref C) "__getattribute__" = some (some (.builtin "BaseException.__getattribute__"))
  gg : findIn K (.ref C) "__getattr__" = some none
  noN : findIn K (.ref C) "path" = some none
  iC : findIn K (.ref C) "__init__" = some (some (.ref fI))
  tC : typeIn K (.ref fI) = some (.type "function")
  kC : keepIn K (.ref C) = true
  exC : subIn K (.ref C) (.type "BaseException") = some true
  tyC : typeIn K (.ref C) = some (.type "type")
  hdC : hasDictIn K C = true
  te : exmOne K (.ref C) (.ref C) = some true
  fn : ∃ (qn : Str) (oc : Value) (od : Option Addr) (doc pm : Value) (an : Option Addr) (cdv ct : Value) (osl : Array (Option Value)) (p1 p2 q1 q2 q3 q4 : Pos),
    K.lookup fI = some ⟨oc, od, .func (fnOf "__init__" qn (iA p1 p2) (iB q1 q2 q3 q4) iS .none .none doc pm an cdv ct), osl⟩ ∧ codeIn K cdv qn = true
theorem one_size (v : Value) : [v].length ≤ sizeLine := by
  rw [sizeLine_eq]
  exact (by decide : 1 ≤ 16777216)
theorem kept_but {K : Frag} {h h' : Heap} {x : Addr} (X : K.In h) (hx : K.lookup x = none) (k : ∀ b o, b ≠ x → h.get? b = some o → h'.get? b = some o) : K.In h' := fun a o e =>
  k a o (fun z => by rw [z, hx] at e; cases e) (X a o e)
theorem ldC {M : Model} {s : Shared} {name : Str} {scope : Scope} {L a : Addr} {cd : Value} {m : Str → Option Value} {x : Str} {pos : Pos} {v : Value} {Q : Value → Shared → Prop} {A : Around} {E : Value → Shared → Prop} (hn : s.heap.Ns L m) (hv : m x = some v) (h : Q v s)
    (hk : scope.kind = .function := by rfl) (hl : (envOfC name scope L a cd).kindOf x = some .local := by rfl) (hd : (x == ("__debug__" : Str)) = false := by decide) :
    wpAny M A (eval (.Name x pos) (envOfC name scope L a cd)) Q E s := wpAny_Name (wpAny_loadName_local hk hl hn hv h) hd
/-- what __init__ leaves of a fresh exception at x -/
structure InitEnd (h h' : Heap) (x C dx t1 : Addr) (v : Value) : Prop where
  keep : ∀ b o, b ≠ x → h.get? b = some o → h'.get? b = some o
  obj : h'.get? x = some { cls := .ref C, dict := some dx, data := .fields #[.ref t1, .none, .none, .none, .bool false, .none] }
  dbig : h.objs.size ≤ dx
  dne : dx ≠ x
  ns : h'.Ns1 dx (fun y => if y = "path" then some v else none)
/-- a made Low -/
structure OwnMade (h h' : Heap) (e C d : Addr) (v : Value) : Prop where
  keep : ∀ b o, h.get? b = some o → h'.get? b = some o
  new : h.objs.size ≤ e
  obj : ∃ oe vs, h'.get? e = some oe ∧ oe.cls = .ref C ∧ oe.dict = some d ∧ oe.data = .fields vs ∧ vs[1]? = some .none
  dbig : h.objs.size ≤ d
  dne : d ≠ e
  ns : h'.Ns1 d (fun y => if y = "path" then some v else none)
section
variable {prog : Program} {w : World} {A : Around} {E : Value → Shared → Prop} {R : Result → Shared → Prop} {s : Shared} {K : Frag} {mg : Str → Option Value} {x0 : Str} {C fI : Addr}
theorem low_init (T : OTxt K mg x0 C fI) {x t0 : Addr} {v : Value} (X : K.In s.heap) (hlim : s.heap.NoLimit) (hx : s.heap.get? x = some (excO C t0)) (hnx : K.lookup x = none) (hroom : A.depth < recursionLimit)
    (hq : ∀ h' tk dx, InitEnd s.heap h' x C dx t0 v → R (.ok (.ret .none)) { s with heap := h', toks := tk }) :
    codeAny (model prog w) A (.call (.ref fI) ⟨[.ref x, v], []⟩) R s := by
  obtain ⟨qn, oc, od, doc, pm, an, cdv, ct, osl, p1, p2, q1, q2, q3, q4, ho, hcd⟩ := T.fn
  obtain ⟨nm, q, N, bs, bm, sn, sub, ab, col, dd, k0, k1, k2, k3, k5, hC, hbm⟩ := T.cls
  have hcl : clsIn K C = some { name := nm, bases := bs, mro := .ref C :: bm, ns := N, qualname := q, hasDict := true, slotNames := sn, subclasses := sub, abstract := ab, collection := col, hasDel := false } := by unfold clsIn; rw [hC] <;> rfl
  refine Att.call_fn (binds := [("self", .ref x), ("path", v)]) X hlim ho hcd hroom (BindsTo.of_eq (by first | rfl | with_unfolding_all rfl)) (by first | rfl | decide | with_unfolding_all rfl) (fun s₁ IC => ?_) rfl rfl rfl
  obtain ⟨h₁, tk₁, rfl⟩ := IC.toInCall.same
  have k : ∀ b o, s.heap.get? b = some o → h₁.get? b = some o := IC.toInCall.keep
  have hn := IC.toInCall.ns
  have hxL : s.heap.objs.size ≠ x := Nat.ne_of_gt (Heap.lt_size hx)
  have X₁ : K.In h₁ := X.keeps k
  have hx₁ := k _ _ hx
  -- self.by = by
  show wpAny _ _ (execs _ _) _ _ _
  refine wpAny_execs_cons (plainObj_wpAny_Assign_Attribute ?_)
  refine ldC (v := v) hn (by first | rfl | with_unfolding_all rfl | kernel_rfl) (ldC (v := .ref x) hn (by first | rfl | with_unfolding_all rfl | kernel_rfl) ?_)
  refine set_plain X₁ (ox := excO C t0) (od := none) ⟨hx₁, rfl, rfl, trivial⟩ T.sa ?_
  refine exc_osa X₁ hx₁ hcl (show refsVE (.ref C :: bm) = true from hbm) rfl T.noN (fun h₃ tk₃ dx k₃ dn dne hx₃ hn₃ => ?_)
  show wpAny _ _ (execs _ _) _ _ _
  have z : s.heap.objs.size < h₁.objs.size := hn.lt
  exact wpAny_execs_nil (hq h₃ tk₃ dx ⟨fun b o hb e => k₃ b o hb (k b o e), hx₃, Nat.le_of_lt (Nat.lt_of_lt_of_le z dn), dne, hn₃⟩)
theorem low_made (T : OTxt K mg x0 C fI) {v : Value} (X : K.In s.heap) (hlim : s.heap.NoLimit) (hroom : A.depth + 1 < recursionLimit)
    (hq : ∀ h' tk e d, OwnMade s.heap h' e C d v → R (.ok (.ret (.ref e))) { s with heap := h', toks := tk }) :
    codeAny (model prog w) A (.call (.ref C) ⟨[v], []⟩) R s := by
  obtain ⟨nm, q, N, bs, bm, sn, sub, ab, col, dd, k0, k1, k2, k3, k5, hC, hbm⟩ := T.cls
  obtain ⟨hp, g, dr, tk, os⟩ := s
  have k : ∀ b o, hp.get? b = some o → ((hp.push (kdv_tup [v])).push (excO C hp.objs.size)).get? b = some o := fun b o e => Heap.get?_push_of_some _ (Heap.get?_push_of_some _ e)
  have hget : ((hp.push (kdv_tup [v])).push (excO C hp.objs.size)).get? (hp.objs.size + 1) = some (excO C hp.objs.size) := by heap_get
  have hnx : K.lookup (hp.objs.size + 1) = none := by
    cases e : K.lookup (hp.objs.size + 1) with
    | none => rfl
    | some o =>
      have z : hp.get? (hp.objs.size + 1) = some o := X _ _ e
      exact absurd (Nat.lt_of_succ_lt (Heap.lt_size z)) (Nat.lt_irrefl _)
  refine call_own F.excBase_ValueError (fun X => refsVE_contains X bm hbm) (X _ _ hC) (looks_findIn X T.iC) (fun self => bind_fn X self T.tC) (one_size v) ?_
  refine low_init (s := ⟨(hp.push (kdv_tup [v])).push (excO C hp.objs.size), g, dr, tk, os⟩) T (X.keeps k) (hlim.keeps k) hget hnx ?_ fun h' tk' dx ⟨k', hx, dn, dne, hns⟩ => ?_
  · show A.depth + 1 < recursionLimit
    exact hroom
  · have old : ∀ b o, hp.get? b = some o → h'.get? b = some o := fun b o e => k' b o (Nat.ne_of_lt (Nat.lt_succ_of_lt (Heap.lt_size e))) (k b o e)
    have z : hp.objs.size + 1 + 1 ≤ dx := by
      first
        | (simpa only [Heap.size_push] using dn)
        | exact dn
        | (have q := dn; rw [Heap.size_push, Heap.size_push] at q; exact q)
    exact ⟨rfl, hq h' tk' (hp.objs.size + 1) dx ⟨old, Nat.le_succ _, ⟨_, _, hx, rfl, rfl, rfl, rfl⟩, Nat.le_trans (Nat.le_trans (Nat.le_succ _) (Nat.le_succ _)) z, dne, hns⟩⟩
end
end OPath
end PySem
namespace L2
namespace OPath
open PySem PySem.Spec PyProof.Rows
theorem relO_low {v : V} {v' : Value} (r : RelV v v') (f : Str) : RelO (List.lookup f [(("path" : Str), v)]) (if f = "path" then some v' else none) := by
  by_cases hw : f = "path"
  · subst hw
    rw [if_pos rfl]
    have q : List.lookup ("path" : Str) [(("path" : Str), v)] = some v := by simp [List.lookup]
    rw [q]
    exact r
  · rw [if_neg hw]
    have qw : (f == ("path" : Str)) = false := by simpa using hw
    have q2 : List.lookup f [(("path" : Str), v)] = none := by simp [List.lookup, qw]
    rw [q2]
    trivial
section
variable {X : Cx} {x0 : Str} {C fI : Addr}
/-- Low(e) -/
def tMkLow (C : Addr) (ta : TA) : St → Hp → XK → Prop := fun σ H Q => ta σ H fun vs H1 => ∃ v, vs = [v] ∧ ∀ d, H1 d = none → Q (.ref C) (some d) (upd H1 d (.xd [(("path" : Str), v)]))
theorem pmk_low {a : Expr} {ta : TA} {p pos : Pos} {k : Nat} (T : PySem.OPath.OTxt X.K X.mg x0 C fI) (hr : Room k X.A) (ha : PA X [a] ta) (hg : Gl X x0) (hdb : (x0 == ("__debug__" : Str)) = false)
    (he : starEach (a :: []) X.env = (false, eval a X.env) :: starEach [] X.env := by rfl) (hpl : (backTo pos (starEach [] X.env)).any (·.1) = false := by rfl) :
    PMk X (.Call (.Name x0 p) [a] [] pos) (tMkLow C ta) := by
  intro pins s σ H Q I h
  refine wpAny_Call_Name_kw (ld_glob I hg T.gC ?_ hdb)
  refine PySem.W.callWith_K (h₀ := X.base) I.ok.mod.kin T.kC (thn (ha.run pos pins s σ H _ I h) fun us s1 hh => ?_) he hpl
  obtain ⟨vs, H1, I1, r1, v, ev, q1⟩ := hh
  subst ev
  refine ⟨I1.kIn, ?_⟩
  cases r1 with
  | cons rv rn =>
    rename_i v' us'
    cases rn
    show wpAny _ _ (call (.ref C) [v']) _ _ _
    have hlim := I1.nolimit
    obtain ⟨hp, g, dr, tk, os⟩ := s1
    refine wpAny_call (PySem.OPath.low_made T I1.kIn hlim (by have := hr.dp; omega) fun h' tk' e d M => ?_)
    show MkP X pins σ Q (.ref e) ⟨h', g, dr, tk', os⟩
    obtain ⟨oe, fv, hoe, hc, hd, hdat, h1⟩ := M.obj
    have hns := M.ns
    obtain ⟨G', g1, g2⟩ := restrict h' fun b => decide (b ≠ e)
    have gk : ∀ b, b ≠ e → G'.get? b = h'.get? b := fun b hb => g1 b (decide_eq_true hb)
    have ge : G'.get? e = none := g2 e (by simp)
    have old : ∀ b o, hp.get? b = some o → G'.get? b = some o := fun b o q => (gk b (Nat.ne_of_lt (Nat.lt_of_lt_of_le (Heap.lt_size q) M.new))).trans (M.keep b o q)
    have ob : ObjOk X.prog X.w (upd H1 d (.xd [(("path" : Str), v)])) G' d (.xd [(("path" : Str), v)]) :=
      ⟨_, hns.at (fun o q => (gk d M.dne).trans q), fun f => relO_low rv f⟩
    have J : Inv X pins σ (upd H1 d (.xd [(("path" : Str), v)])) ⟨G', g, dr, tk', os⟩ := I1.laid (t' := tk') old M.dbig ob
    refine ⟨e, oe, fv, ⟨G', g, dr, tk', os⟩, _, .ref C, some d, rfl, J, fun b o q => ?_, ge, hoe, ⟨hc, hd⟩, hdat, h1, ?_, rfl, I1.bare, raises_own T.exC T.tyC, q1 d (I1.hok.fresh M.dbig)⟩
    · by_cases hb : b = e
      · have q' : G'.get? b = some o := q
        rw [hb, ge] at q'; cases q'
      · exact (gk b hb).symm.trans q
    · rw [upd_ne (Ne.symm M.dne)]
      exact I1.hok.fresh M.new
/-- raise Low(e) -/
def tRaiseLow (C : Addr) (W : WX) (ta : TA) : TS := fun _ σ H => tMkLow C ta σ H fun cls d H' => W cls d σ H'
theorem ps_raiseLow {a : Expr} {ta : TA} {W : WX} {p pos pos2 : Pos} {k : Nat} (hc : X.calm = true) (T : PySem.OPath.OTxt X.K X.mg x0 C fI) (hr : Room k X.A) (tk : Takes X W) (ha : PA X [a] ta) (hg : Gl X x0) (hdb : (x0 == ("__debug__" : Str)) = false)
    (he : starEach (a :: []) X.env = (false, eval a X.env) :: starEach [] X.env := by rfl) (hpl : (backTo pos (starEach [] X.env)).any (·.1) = false := by rfl) :
    PS X (.Raise (some (.Call (.Name x0 p) [a] [] pos)) none pos2) (tRaiseLow C W ta) := ps_raise hc tk (pmk_low T hr ha hg hdb he hpl)
/-- low.by, low the exception that the suite holds (at a; its class cls, its dict d) -/
def tByLow (C : Addr) (a : Addr) (cls : Value) (d : Option Addr) (te : TE) : TE := fun σ H Q => te σ H fun x H1 => x = .ref a ∧ cls = .ref C ∧ ∃ (dd : Addr) (v : V), d = some dd ∧ H1 dd = some (.xd [(("path" : Str), v)]) ∧ Q v H1
theorem pe_byLow {a : Addr} {oe : Obj} {cls : Value} {d : Option Addr} {pn : List (Addr × Obj)} {e : Expr} {te : TE} {pos : Pos} (T : PySem.OPath.OTxt X.K X.mg x0 C fI) (hz : Zc cls d oe) (hf : ∃ vs, oe.data = .fields vs) (he : PE (X.suite a ((a, oe) :: pn)) e te)
    (hb : attributeBase e "path" X.env (eval e X.env) = eval e X.env := by rfl) :
    PE (X.suite a ((a, oe) :: pn)) (.Attribute e "path" pos) (tByLow C a cls d te) := by
  refine ⟨fun pins s σ H Q I h => ?_⟩
  refine attr_of hb (thn (he.run pins s σ H _ I h) fun u s1 hh => ?_)
  obtain ⟨x, H1, I1, rx, ex, ec, dd, v, ed, ea, q⟩ := hh
  subst ex
  obtain rfl : u = Value.ref a := rx
  subst ec
  subst ed
  obtain ⟨ha, _⟩ := I1.pin (a, oe) (List.mem_append_left _ List.mem_cons_self)
  obtain ⟨vs, hd⟩ := hf
  have hx : ObjOk X.prog X.w H1 s1.heap dd (.xd [(("path" : Str), v)]) := I1.hok dd _ ea
  obtain ⟨mA, hns, hr⟩ := hx
  obtain ⟨od, ho, hl⟩ := lookIn_ns hns
  have l : List.lookup ("path" : Str) [(("path" : Str), v)] = some v := by simp [List.lookup]
  obtain ⟨u, hu, ru⟩ := RelO.some_of (v := v) (o := mA "path") (by rw [← l]; exact hr "path")
  have J : PySem.W.InstAt s1.heap a oe C (some od) := ⟨ha, hz.1, by unfold PySem.W.notCls; rw [hd] <;> rfl, by rw [hz.2]; exact ho⟩
  exact HandSPX.exc_get I1.kIn J T.ga T.gg T.exC (PySem.W.findObj_own T.hdC T.noN rfl (by rw [hl, hu])) (handed_of ru) ⟨v, H1, I1.tok _, ru, q⟩
end
end OPath
end L2
namespace PySem
namespace OPart
open PySem.W PySem.Calls PyProof.Rows PySem.HandSPX
/-! ### the text of __init__ -/
def iA (p1 p2 : Pos) : Arguments := { posonlyargs := [], args := [{ arg := "self", annotation := none, pos := p1 }, { arg := "part", annotation := none, pos := p2 }], vararg := none, kwonlyargs := [], kw_defaults := [], kwarg := none, defaults := [] }
def iB (q1 q2 q3 q4 : Pos) : List Stmt := [.Assign [.Attribute (.Name "self" q1) "part" q2] (.Name "part" q3) q4]
def iS : Scope := { kind := .function, names := [(PySem.Str.ofString "self", .local), (PySem.Str.ofString "part", .local)], isGenerator := false, isCoroutine := false, more := [] }
/-- what the written part says of Low, at C, and of its __init__, at fI -/
structure OTxt (K : Frag) (mg : Str → Option Value) (x : Str) (C fI : Addr) : Prop where
  gC : mg x = some (.ref C)
  cls : ∃ nm q N bs bm sn sub ab col dd k0 k1 k2 k3 k5, K.lookup C = some (excClassObj nm q C N bs bm true sn sub ab col dd k0 k1 k2 k3 k5 "ValueError.__new__") ∧ refsVE bm = true
  sa : findIn K (.ref C) "__setattr__" = some (some (.builtin "object.__setattr__"))
  ga : findIn K (.ref C) "__getattribute__" = some (some (.builtin "BaseException.__getattribute__"))
  gg : findIn K (.ref C) "__getattr__" = some none
  noN : findIn K (.ref C) "part" = some none
  iC : findIn K (.ref C) "__init__" = some (some (.ref fI))
  tC : typeIn K (.ref fI) = some (.type "function")
  kC : keepIn K (.ref C) = true
  exC : subIn K (.ref C) (.type "BaseException") = some true
  tyC : typeIn K (.ref C) = some (.type "type")
  hdC : hasDictIn K C = true
  te : exmOne K (.ref C) (.ref C) = some true
  fn : ∃ (qn : Str) (oc : Value) (od : Option Addr) (doc pm : Value) (an : Option Addr) (cdv ct : Value) (osl : Array (Option Value)) (p1 p2 q1 q2 q3 q4 : Pos),
    K.lookup fI = some ⟨oc, od, .func (fnOf "__init__" qn (iA p1 p2) (iB q1 q2 q3 q4) iS .none .none doc pm an cdv ct), osl⟩ ∧ codeIn K cdv qn = true
theorem one_size (v : Value) : [v].length ≤ sizeLine := by
  rw [sizeLine_eq]
  exact (by decide : 1 ≤ 16777216)
theorem kept_but {K : Frag} {h h' : Heap} {x : Addr} (X : K.In h) (hx : K.lookup x = none) (k : ∀ b o, b ≠ x → h.get? b = some o → h'.get? b = some o) : K.In h' := fun a o e =>
  k a o (fun z => by rw [z, hx] at e; cases e) (X a o e)
theorem ldC {M : Model} {s : Shared} {name : Str} {scope : Scope} {L a : Addr} {cd : Value} {m : Str → Option Value} {x : Str} {pos : Pos} {v : Value} {Q : Value → Shared → Prop} {A : Around} {E : Value → Shared → Prop} (hn : s.heap.Ns L m) (hv : m x = some v) (h : Q v s)
    (hk : scope.kind = .function := by rfl) (hl : (envOfC name scope L a cd).kindOf x = some .local := by rfl) (hd : (x == ("__debug__" : Str)) = false := by decide) :
    wpAny M A (eval (.Name x pos) (envOfC name scope L a cd)) Q E s := wpAny_Name (wpAny_loadName_local hk hl hn hv h) hd
/-- what __init__ leaves of a fresh exception at x -/
structure InitEnd (h h' : Heap) (x C dx t1 : Addr) (v : Value) : Prop where
  keep : ∀ b o, b ≠ x → h.get? b = some o → h'.get? b = some o
  obj : h'.get? x = some { cls := .ref C, dict := some dx, data := .fields #[.ref t1, .none, .none, .none, .bool false, .none] }
  dbig : h.objs.size ≤ dx
  dne : dx ≠ x
  ns : h'.Ns1 dx (fun y => if y = "part" then some v else none)
/-- a made Low -/
structure OwnMade (h h' : Heap) (e C d : Addr) (v : Value) : Prop where
  keep : ∀ b o, h.get? b = some o → h'.get? b = some o
  new : h.objs.size ≤ e
  obj : ∃ oe vs, h'.get? e = some oe ∧ oe.cls = .ref C ∧ oe.dict = some d ∧ oe.data = .fields vs ∧ vs[1]? = some .none
  dbig : h.objs.size ≤ d
  dne : d ≠ e
  ns : h'.Ns1 d (fun y => if y = "part" then some v else none)
section
variable {prog : Program} {w : World} {A : Around} {E : Value → Shared → Prop} {R : Result → Shared → Prop} {s : Shared} {K : Frag} {mg : Str → Option Value} {x0 : Str} {C fI : Addr}
theorem low_init (T : OTxt K mg x0 C fI) {x t0 : Addr} {v : Value} (X : K.In s.heap) (hlim : s.heap.NoLimit) (hx : s.heap.get? x = some (excO C t0)) (hnx : K.lookup x = none) (hroom : A.depth < recursionLimit)
    (hq : ∀ h' tk dx, InitEnd s.heap h' x C dx t0 v → R (.ok (.ret .none)) { s with heap := h', toks := tk }) :
    codeAny (model prog w) A (.call (.ref fI) ⟨[.ref x, v], []⟩) R s := by
  obtain ⟨qn, oc, od, doc, pm, an, cdv, ct, osl, p1, p2, q1, q2, q3, q4, ho, hcd⟩ := T.fn
  obtain ⟨nm, q, N, bs, bm, sn, sub, ab, col, dd, k0, k1, k2, k3, k5, hC, hbm⟩ := T.cls
  have hcl : clsIn K C = some { name := nm, bases := bs, mro := .ref C :: bm, ns := N, qualname := q, hasDict := true, slotNames := sn, subclasses := sub, abstract := ab, collection := col, hasDel := false } := by unfold clsIn; rw [hC] <;> rfl
  refine Att.call_fn (binds := [("self", .ref x), ("part", v)]) X hlim ho hcd hroom (BindsTo.of_eq (by first | rfl | with_unfolding_all rfl)) (by first | rfl | decide | with_unfolding_all rfl) (fun s₁ IC => ?_) rfl rfl rfl
  obtain ⟨h₁, tk₁, rfl⟩ := IC.toInCall.same
  have k : ∀ b o, s.heap.get? b = some o → h₁.get? b = some o := IC.toInCall.keep
  have hn := IC.toInCall.ns
  have hxL : s.heap.objs.size ≠ x := Nat.ne_of_gt (Heap.lt_size hx)
  have X₁ : K.In h₁ := X.keeps k
  have hx₁ := k _ _ hx
  -- self.by = by
  show wpAny _ _ (execs _ _) _ _ _
  refine wpAny_execs_cons (plainObj_wpAny_Assign_Attribute ?_)
  refine ldC (v := v) hn (by first | rfl | with_unfolding_all rfl | kernel_rfl) (ldC (v := .ref x) hn (by first | rfl | with_unfolding_all rfl | kernel_rfl) ?_)
  refine set_plain X₁ (ox := excO C t0) (od := none) ⟨hx₁, rfl, rfl, trivial⟩ T.sa ?_
  refine exc_osa X₁ hx₁ hcl (show refsVE (.ref C :: bm) = true from hbm) rfl T.noN (fun h₃ tk₃ dx k₃ dn dne hx₃ hn₃ => ?_)
  show wpAny _ _ (execs _ _) _ _ _
  have z : s.heap.objs.size < h₁.objs.size := hn.lt
  exact wpAny_execs_nil (hq h₃ tk₃ dx ⟨fun b o hb e => k₃ b o hb (k b o e), hx₃, Nat.le_of_lt (Nat.lt_of_lt_of_le z dn), dne, hn₃⟩)
theorem low_made (T : OTxt K mg x0 C fI) {v : Value} (X : K.In s.heap) (hlim : s.heap.NoLimit) (hroom : A.depth + 1 < recursionLimit)
    (hq : ∀ h' tk e d, OwnMade s.heap h' e C d v → R (.ok (.ret (.ref e))) { s with heap := h', toks := tk }) :
    codeAny (model prog w) A (.call (.ref C) ⟨[v], []⟩) R s := by
  obtain ⟨nm, q, N, bs, bm, sn, sub, ab, col, dd, k0, k1, k2, k3, k5, hC, hbm⟩ := T.cls
  obtain ⟨hp, g, dr, tk, os⟩ := s
  have k : ∀ b o, hp.get? b = some o → ((hp.push (kdv_tup [v])).push (excO C hp.objs.size)).get? b = some o := fun b o e => Heap.get?_push_of_some _ (Heap.get?_push_of_some _ e)
  have hget : ((hp.push (kdv_tup [v])).push (excO C hp.objs.size)).get? (hp.objs.size + 1) = some (excO C hp.objs.size) := by heap_get
  have hnx : K.lookup (hp.objs.size + 1) = none := by
    cases e : K.lookup (hp.objs.size + 1) with
    | none => rfl
    | some o =>
      have z : hp.get? (hp.objs.size + 1) = some o := X _ _ e
      exact absurd (Nat.lt_of_succ_lt (Heap.lt_size z)) (Nat.lt_irrefl _)
  refine call_own F.excBase_ValueError (fun X => refsVE_contains X bm hbm) (X _ _ hC) (looks_findIn X T.iC) (fun self => bind_fn X self T.tC) (one_size v) ?_
  refine low_init (s := ⟨(hp.push (kdv_tup [v])).push (excO C hp.objs.size), g, dr, tk, os⟩) T (X.keeps k) (hlim.keeps k) hget hnx ?_ fun h' tk' dx ⟨k', hx, dn, dne, hns⟩ => ?_
  · show A.depth + 1 < recursionLimit
    exact hroom
  · have old : ∀ b o, hp.get? b = some o → h'.get? b = some o := fun b o e => k' b o (Nat.ne_of_lt (Nat.lt_succ_of_lt (Heap.lt_size e))) (k b o e)
    have z : hp.objs.size + 1 + 1 ≤ dx := by
      first
        | (simpa only [Heap.size_push] using dn)
        | exact dn
        | (have q := dn; rw [Heap.size_push, Heap.size_push] at q; exact q)
    exact ⟨rfl, hq h' tk' (hp.objs.size + 1) dx ⟨old, Nat.le_succ _, ⟨_, _, hx, rfl, rfl, rfl, rfl⟩, Nat.le_trans (Nat.le_trans (Nat.le_succ _) (Nat.le_succ _)) z, dne, hns⟩⟩
end
end OPart
end PySem
namespace L2
namespace OPart
open PySem PySem.Spec PyProof.Rows
theorem relO_low {v : V} {v' : Value} (r : RelV v v') (f : Str) : RelO (List.lookup f [(("part" : Str), v)]) (if f = "part" then some v' else none) := by
  by_cases hw : f = "part"
  · subst hw
    rw [if_pos rfl]
    have q : List.lookup ("part" : Str) [(("part" : Str), v)] = some v := by simp [List.lookup]
    rw [q]
    exact r
  · rw [if_neg hw]
    have qw : (f == ("part" : Str)) = false := by simpa using hw
    have q2 : List.lookup f [(("part" : Str), v)] = none := by simp [List.lookup, qw]
    rw [q2]
    trivial
section
variable {X : Cx} {x0 : Str} {C fI : Addr}
/-- Low(e) -/
def tMkLow (C : Addr) (ta : TA) : St → Hp → XK → Prop := fun σ H Q => ta σ H fun vs H1 => ∃ v, vs = [v] ∧ ∀ d, H1 d = none → Q (.ref C) (some d) (upd H1 d (.xd [(("part" : Str), v)]))
theorem pmk_low {a : Expr} {ta : TA} {p pos : Pos} {k : Nat} (T : PySem.OPart.OTxt X.K X.mg x0 C fI) (hr : Room k X.A) (ha : PA X [a] ta) (hg : Gl X x0) (hdb : (x0 == ("__debug__" : Str)) = false)
    (he : starEach (a :: []) X.env = (false, eval a X.env) :: starEach [] X.env := by rfl) (hpl : (backTo pos (starEach [] X.env)).any (·.1) = false := by rfl) :
    PMk X (.Call (.Name x0 p) [a] [] pos) (tMkLow C ta) := by
  intro pins s σ H Q I h
  refine wpAny_Call_Name_kw (ld_glob I hg T.gC ?_ hdb)
  refine PySem.W.callWith_K (h₀ := X.base) I.ok.mod.kin T.kC (thn (ha.run pos pins s σ H _ I h) fun us s1 hh => ?_) he hpl
  obtain ⟨vs, H1, I1, r1, v, ev, q1⟩ := hh
  subst ev
  refine ⟨I1.kIn, ?_⟩
  cases r1 with
  | cons rv rn =>
    rename_i v' us'
    cases rn
    show wpAny _ _ (call (.ref C) [v']) _ _ _
    have hlim := I1.nolimit
    obtain ⟨hp, g, dr, tk, os⟩ := s1
    refine wpAny_call (PySem.OPart.low_made T I1.kIn hlim (by have := hr.dp; omega) fun h' tk' e d M => ?_)
    show MkP X pins σ Q (.ref e) ⟨h', g, dr, tk', os⟩
    obtain ⟨oe, fv, hoe, hc, hd, hdat, h1⟩ := M.obj
    have hns := M.ns
    obtain ⟨G', g1, g2⟩ := restrict h' fun b => decide (b ≠ e)
    have gk : ∀ b, b ≠ e → G'.get? b = h'.get? b := fun b hb => g1 b (decide_eq_true hb)
    have ge : G'.get? e = none := g2 e (by simp)
    have old : ∀ b o, hp.get? b = some o → G'.get? b = some o := fun b o q => (gk b (Nat.ne_of_lt (Nat.lt_of_lt_of_le (Heap.lt_size q) M.new))).trans (M.keep b o q)
    have ob : ObjOk X.prog X.w (upd H1 d (.xd [(("part" : Str), v)])) G' d (.xd [(("part" : Str), v)]) :=
      ⟨_, hns.at (fun o q => (gk d M.dne).trans q), fun f => relO_low rv f⟩
    have J : Inv X pins σ (upd H1 d (.xd [(("part" : Str), v)])) ⟨G', g, dr, tk', os⟩ := I1.laid (t' := tk') old M.dbig ob
    refine ⟨e, oe, fv, ⟨G', g, dr, tk', os⟩, _, .ref C, some d, rfl, J, fun b o q => ?_, ge, hoe, ⟨hc, hd⟩, hdat, h1, ?_, rfl, I1.bare, raises_own T.exC T.tyC, q1 d (I1.hok.fresh M.dbig)⟩
    · by_cases hb : b = e
      · have q' : G'.get? b = some o := q
        rw [hb, ge] at q'; cases q'
      · exact (gk b hb).symm.trans q
    · rw [upd_ne (Ne.symm M.dne)]
      exact I1.hok.fresh M.new
/-- raise Low(e) -/
def tRaiseLow (C : Addr) (W : WX) (ta : TA) : TS := fun _ σ H => tMkLow C ta σ H fun cls d H' => W cls d σ H'
theorem ps_raiseLow {a : Expr} {ta : TA} {W : WX} {p pos pos2 : Pos} {k : Nat} (hc : X.calm = true) (T : PySem.OPart.OTxt X.K X.mg x0 C fI) (hr : Room k X.A) (tk : Takes X W) (ha : PA X [a] ta) (hg : Gl X x0) (hdb : (x0 == ("__debug__" : Str)) = false)
    (he : starEach (a :: []) X.env = (false, eval a X.env) :: starEach [] X.env := by rfl) (hpl : (backTo pos (starEach [] X.env)).any (·.1) = false := by rfl) :
    PS X (.Raise (some (.Call (.Name x0 p) [a] [] pos)) none pos2) (tRaiseLow C W ta) := ps_raise hc tk (pmk_low T hr ha hg hdb he hpl)
/-- low.by, low the exception that the suite holds (at a; its class cls, its dict d) -/
def tByLow (C : Addr) (a : Addr) (cls : Value) (d : Option Addr) (te : TE) : TE := fun σ H Q => te σ H fun x H1 => x = .ref a ∧ cls = .ref C ∧ ∃ (dd : Addr) (v : V), d = some dd ∧ H1 dd = some (.xd [(("part" : Str), v)]) ∧ Q v H1
theorem pe_byLow {a : Addr} {oe : Obj} {cls : Value} {d : Option Addr} {pn : List (Addr × Obj)} {e : Expr} {te : TE} {pos : Pos} (T : PySem.OPart.OTxt X.K X.mg x0 C fI) (hz : Zc cls d oe) (hf : ∃ vs, oe.data = .fields vs) (he : PE (X.suite a ((a, oe) :: pn)) e te)
    (hb : attributeBase e "part" X.env (eval e X.env) = eval e X.env := by rfl) :
    PE (X.suite a ((a, oe) :: pn)) (.Attribute e "part" pos) (tByLow C a cls d te) := by
  refine ⟨fun pins s σ H Q I h => ?_⟩
  refine attr_of hb (thn (he.run pins s σ H _ I h) fun u s1 hh => ?_)
  obtain ⟨x, H1, I1, rx, ex, ec, dd, v, ed, ea, q⟩ := hh
  subst ex
  obtain rfl : u = Value.ref a := rx
  subst ec
  subst ed
  obtain ⟨ha, _⟩ := I1.pin (a, oe) (List.mem_append_left _ List.mem_cons_self)
  obtain ⟨vs, hd⟩ := hf
  have hx : ObjOk X.prog X.w H1 s1.heap dd (.xd [(("part" : Str), v)]) := I1.hok dd _ ea
  obtain ⟨mA, hns, hr⟩ := hx
  obtain ⟨od, ho, hl⟩ := lookIn_ns hns
  have l : List.lookup ("part" : Str) [(("part" : Str), v)] = some v := by simp [List.lookup]
  obtain ⟨u, hu, ru⟩ := RelO.some_of (v := v) (o := mA "part") (by rw [← l]; exact hr "part")
  have J : PySem.W.InstAt s1.heap a oe C (some od) := ⟨ha, hz.1, by unfold PySem.W.notCls; rw [hd] <;> rfl, by rw [hz.2]; exact ho⟩
  exact HandSPX.exc_get I1.kIn J T.ga T.gg T.exC (PySem.W.findObj_own T.hdC T.noN rfl (by rw [hl, hu])) (handed_of ru) ⟨v, H1, I1.tok _, ru, q⟩
end
end OPart
end L2

set_option Elab.async false
set_option linter.all false
set_option maxRecDepth 100000
set_option maxHeartbeats 4000000
namespace Dd
open PySem PySem.Spec PyProof.Rows L2

/-! # 13. Where a text stands -/
/-- what is raised with one argument, kept in one field -/
def tMkX (C : Addr) (f : Str) (ta : TA) : L2.St → Hp → XK → Prop := fun σ H Q => ta σ H fun vs H1 => ∃ v, vs = [v] ∧ ∀ d, H1 d = none → Q (.ref C) (some d) (upd H1 d (.xd [(f, v)]))
structure ExcT (K : PySem.W.Frag) (mg : Str → Option Value) (x f : Str) (C : Addr) : Prop where
  gC : mg x = some (.ref C)
  mkx : ∀ (X : Cx), X.K = K → X.mg = mg → ∀ (a : Expr) (ta : TA) (p pos : Pos) (k : Nat), Room k X.A → PA X [a] ta → Gl X x → (x == ("__debug__" : Str)) = false → noStar a = true → PMk X (.Call (.Name x p) [a] [] pos) (tMkX C f ta)
  rd : ∀ (X : Cx), X.K = K → X.mg = mg → ∀ (a : Addr) (oe : Obj) (cls : Value) (d : Option Addr) (pn : List (Addr × Obj)) (e : Expr) (te : TE) (pos : Pos), Zc cls d oe → (∃ vs, oe.data = .fields vs) → PE (X.suite a ((a, oe) :: pn)) e te →
    attributeBase e f X.env (eval e X.env) = eval e X.env →
    PE (X.suite a ((a, oe) :: pn)) (.Attribute e f pos) (fun σ H Q => te σ H fun y H1 => y = .ref a ∧ cls = .ref C ∧ ∃ (dd : Addr) (v : V), d = some dd ∧ H1 dd = some (.xd [(f, v)]) ∧ Q v H1)
  te : PySem.W.exmOne K (.ref C) (.ref C) = some true
theorem star1 {a : Expr} {env : Env} (h : noStar a = true) (es : List Expr) : starEach (a :: es) env = (false, eval a env) :: starEach es env := by
  cases a <;> first | rfl | cases h
theorem star_any {env : Env} {pos : Pos} : ∀ {es : List Expr}, es.all noStar = true → (backTo pos (starEach es env)).any (·.1) = false
  | [], _ => rfl
  | e :: es, h => by
    rw [List.all_cons, Bool.and_eq_true] at h
    rw [star1 h.1]
    show (false || (backTo pos (starEach es env)).any (·.1)) = false
    rw [star_any h.2]
    rfl
theorem ExcT.of_why {K : PySem.W.Frag} {mg : Str → Option Value} {x : Str} {C fI : Addr} (T : PySem.OWhy.OTxt K mg x C fI) : ExcT K mg x "why" C where
  gC := T.gC
  mkx := by
    intro X eK eM a ta p pos k hr ha hg hd hs
    subst eK eM
    exact L2.OWhy.pmk_low T hr ha hg hd (star1 hs []) rfl
  rd := by
    intro X eK eM a oe cls d pn e te pos hz hf he hb
    subst eK eM
    exact L2.OWhy.pe_byLow T hz hf he hb
  te := T.te
theorem ExcT.of_path {K : PySem.W.Frag} {mg : Str → Option Value} {x : Str} {C fI : Addr} (T : PySem.OPath.OTxt K mg x C fI) : ExcT K mg x "path" C where
  gC := T.gC
  mkx := by
    intro X eK eM a ta p pos k hr ha hg hd hs
    subst eK eM
    exact L2.OPath.pmk_low T hr ha hg hd (star1 hs []) rfl
  rd := by
    intro X eK eM a oe cls d pn e te pos hz hf he hb
    subst eK eM
    exact L2.OPath.pe_byLow T hz hf he hb
  te := T.te
theorem ExcT.of_part {K : PySem.W.Frag} {mg : Str → Option Value} {x : Str} {C fI : Addr} (T : PySem.OPart.OTxt K mg x C fI) : ExcT K mg x "part" C where
  gC := T.gC
  mkx := by
    intro X eK eM a ta p pos k hr ha hg hd hs
    subst eK eM
    exact L2.OPart.pmk_low T hr ha hg hd (star1 hs []) rfl
  rd := by
    intro X eK eM a oe cls d pn e te pos hz hf he hb
    subst eK eM
    exact L2.OPart.pe_byLow T hz hf he hb
  te := T.te
def spF (G : Pc) (F : Call) (i : Nat) : Sp := fun vs H Q E =>
  ∃ m h ds r h', G.H m h H ∧ G.Rs m H ds vs ∧ F i ds h = some (r, h') ∧ ∀ m' H', Ext m H m' H' → G.H m' h' H' → match r with
    | .ok d => ∀ v, G.R m' H' d v → Q v H'
    | .ex c p => ∀ cv d, ExcAt G m' H' c p cv d → E cv d H'
structure Fit (X : Cx) (C : CE) (G : Pc) (F : Call) : Prop where
  N : X.N = C.N
  nd : C.N.Nodup
  sc : X.env.scope = C.sc
  calm : X.calm = C.calm
  fn : ∀ x, (C.own || decide (C.blk.lookup x = some .cell)) = true → X.fn x = true
  K : X.K = G.K
  w : X.w = G.w
  tk : Takes X G.W
  pass : PassesOwn (model X.prog X.w) X.A X.env X.xe
  un : X.A.units + 100 < cLine
  gd : X.A.guards = some []
  blt : ∀ x ∈ bltNms, X.mg x = none
  con : ∀ x d, C.con.lookup x = some d → ∃ u v, X.mg x = some u ∧ RelV v u ∧ ∀ m H, G.R m H d v
  fns : C.calm = true → ∀ x i ar, fnIx x C.fns 0 = some (i, ar) → ∃ f n, X.mg x = some (.ref f) ∧ PySem.W.keepIn X.K (.ref f) = true ∧ Room n X.A ∧ FnG X.prog X.w X.K X.mg X.base n f (spF G F i)
  own : C.own = true → X.stack = X.env :: X.outer ∧ X.env.frame = some X.env.locals
  exc : ∀ x c, exIx x C.exc 0 = some c → ExcT X.K X.mg x (G.fld c) (G.cls c)
  excF : ∀ c x f, C.exc[c]? = some (x, f) → f = G.fld c
  room : C.calm = true → ∃ k, Room k X.A
  hkc : C.calm = true → C.hk = none
  hk0 : C.hk = none → G.hk = none
  hk1 : ∀ i c, C.hk = some (i, c) → ∃ a dd, G.hk = some (i, a, dd, G.fld c) ∧ ∀ (e : Expr) (j : Nat) (pos : Pos), PE X e (tVar j) → attributeBase e (G.fld c) X.env (eval e X.env) = eval e X.env →
    PE X (.Attribute e (G.fld c) pos) (fun σ H Q => tVar j σ H fun y H1 => y = .ref a ∧ ∃ v, H1 dd = some (.xd [(G.fld c, v)]) ∧ Q v H1)
theorem ixOf_get {x : Str} : ∀ {l : List Str} {i : Nat}, ixOf x l = some i → l[i]? = some x
  | [], i, h => by cases h
  | y :: r, i, h => by
    unfold ixOf at h
    split at h
    · rename_i e
      cases h
      rw [e]; rfl
    · obtain ⟨j, e1, e2⟩ := map_some h
      subst e2
      simpa using ixOf_get e1
theorem plain_ne {x : Str} (h : plainNm x = true) : (x == ("__debug__" : Str)) = false ∧ (x == ("__classdict__" : Str)) = false ∧ x ≠ "__name__" := by
  unfold plainNm at h
  simp only [Bool.and_eq_true, Bool.not_eq_true'] at h
  exact ⟨h.1.1, h.1.2, fun e => by rw [e] at h; simp at h⟩
section
variable {X : Cx} {C : CE} {G : Pc} {F : Call} (f : Fit X C G F)
include f
theorem Fit.vis {x : Str} {i : Nat} (h : visIx C x = some i) : X.N[i]? = some x ∧ Vis X.env.scope x ∧ plainNm x = true := by
  unfold visIx at h
  split at h
  · rename_i hp
    rw [f.N, f.sc]
    split at h
    · rename_i e; exact ⟨ixOf_get h, .inl e, hp⟩
    · rename_i e; exact ⟨ixOf_get h, .inr (.inl e), hp⟩
    · rename_i e; exact ⟨ixOf_get h, .inr (.inr e), hp⟩
    · cases h
  · cases h
theorem Fit.glb {x : Str} (h : glb C x = true) : Gl X x ∧ plainNm x = true := by
  unfold Dd.glb at h
  rw [Bool.and_eq_true] at h
  exact ⟨by show X.env.scope.names.lookup x = _; rw [f.sc]; exact of_decide_eq_true h.2, h.1⟩
theorem Fit.noHk {i : Nat} (h : isHk C i = false) : notHk G i := by
  intro q hq e
  unfold isHk at h
  cases hc : C.hk with
  | none => rw [f.hk0 hc] at hq; cases hq
  | some p =>
    obtain ⟨j, c⟩ := p
    obtain ⟨a, dd, e1, _⟩ := f.hk1 j c hc
    rw [e1] at hq
    cases hq
    rw [hc] at h
    exact absurd e (of_decide_eq_false h)
theorem Fit.loc {x : Str} {i : Nat} (h : locIx C x = some i) : X.N[i]? = some x ∧ Loc X.env.scope x ∧ (X.fn x = true ∨ X.env.scope.names.lookup x = some .local) := by
  unfold locIx at h
  rw [f.N, f.sc]
  split at h
  · rename_i e; exact ⟨ixOf_get h, .inl e, .inr e⟩
  · rename_i e
    split at h
    · rename_i hb; exact ⟨ixOf_get h, .inr e, .inl (f.fn x hb)⟩
    · cases h
  · cases h
end

/-! # 14. Expressions -/
def OkE (S : Sm) (F : Call) : Prop := ∀ (X : Cx) (C : CE) (G : Pc), Fit X C G F → ∀ e, PE X e (tG G G.R (S.E C e))
def OkT (S : Sm) (F : Call) : Prop := ∀ (X : Cx) (C : CE) (G : Pc), Fit X C G F → ∀ e, PT X e (tG G relB (S.T C e))
def OkW (S : Sm) (F : Call) : Prop := ∀ (X : Cx) (C : CE) (G : Pc), Fit X C G F → ∀ op es p, PW X (.BoolOp op es p) (tG G relB (S.T C (.BoolOp op es p)))
def relQ {α : Type} : List Addr → Hp → α → α → Prop := fun _ _ a b => a = b
def OkO (S : Sm) (F : Call) : Prop := ∀ (X : Cx) (C : CE) (G : Pc), Fit X C G F → ∀ o, PO X o (tG G relQ (S.O C o))
section
variable {G : Pc} {σ : L2.St} {H : Hp}
theorem args_tG {α : Type} {rel : List Addr → Hp → α → V → Prop} : True := trivial
/-- a list of values -/
theorem tG_bndL {α β : Type} {rel : List Addr → Hp → α → β → Prop} {Q : β → Hp → Prop} {M : M (List D)} {k : List D → Dd.M α} (hyp : tG G rel (bnd M k) σ H Q) : tG G G.Rs M σ H (fun xs H1 => tA G xs rel k σ H1 Q) := by
  obtain ⟨m, e, h, r, h', a1, a2, a3, a4⟩ := hyp
  dsimp only [bnd] at a3
  cases hm : M e h with
  | none => rw [hm] at a3; cases a3
  | some q =>
    obtain ⟨r1, h1⟩ := q
    rw [hm] at a3
    refine ⟨m, e, h, r1, h1, a1, a2, hm, fun m1 H1 x1 y1 => ?_⟩
    cases r1 with
    | ex c p =>
      cases a3
      exact a4 m1 H1 x1 y1
    | ok a => exact fun b hb => ⟨m1, e, h1, a, r, h', y1, a2.ext x1, hb, a3, fun m2 H2 x2 y2 => a4 m2 H2 (x1.trans x2) y2⟩
theorem tA1_bndL {α β : Type} {rel : List Addr → Hp → α → β → Prop} {Q : β → Hp → Prop} {x : V} {M : M (List D)} {k : D → List D → Dd.M α} (hyp : tA1 G x rel (fun a => bnd M (k a)) σ H Q) :
    tG G G.Rs M σ H (fun xs H1 => ∃ m e h a ds r h', G.H m h H1 ∧ EnvR G m H1 e σ ∧ G.R m H1 a x ∧ G.Rs m H1 ds xs ∧ k a ds e h = some (r, h') ∧ ∀ m' H', Ext m H1 m' H' → G.H m' h' H' → Post G rel σ r m' H' Q) := by
  obtain ⟨m, e, h, a, r, h', a1, a2, ra, a3, a4⟩ := hyp
  dsimp only [bnd] at a3
  cases hm : M e h with
  | none => rw [hm] at a3; cases a3
  | some q =>
    obtain ⟨r1, h1⟩ := q
    rw [hm] at a3
    refine ⟨m, e, h, r1, h1, a1, a2, hm, fun m1 H1 x1 y1 => ?_⟩
    cases r1 with
    | ex c p =>
      cases a3
      exact a4 m1 H1 x1 y1
    | ok b => exact fun y hb => ⟨m1, e, h1, a, b, r, h', y1, a2.ext x1, ra.ext x1, hb, a3, fun m2 H2 x2 y2 => a4 m2 H2 (x1.trans x2) y2⟩
theorem pa_all {X : Cx} {g : Expr → M D} (hE : ∀ e, PE X e (tG G G.R (g e))) : ∀ {es : List Expr}, es.all noStar = true → PA X es (tG G G.Rs (args (es.map g)))
  | [], _ => PA.of pa_nil fun σ H Q h => by
    obtain ⟨m, e, hh, a1, a2, a3⟩ := tG_ret h
    exact a3 [] rfl
  | e :: es, hs => by
    rw [List.all_cons, Bool.and_eq_true] at hs
    refine PA.of (pa_cons (hE e) (pa_all hE hs.2) (star1 hs.1 es)) fun σ H Q h => ?_
    refine (tG_bnd h).mono fun x H1 h1 => (tA1_bndL h1).mono fun xs H2 h2 => ?_
    obtain ⟨m, e', hh, a, ds, r, h', a1, a2, ra, rds, a3, a4⟩ := h2
    cases a3
    exact a4 m H2 (Ext.refl _ _) a1 (x :: xs) ⟨x, xs, rfl, ra, rds⟩
theorem tA_op {xs : List V} {f : List D → DH → Option (D × DH)} {Q : VK} (hyp : tA G xs G.R (fun ds => lift (f ds)) σ H Q) : rDN G f xs H Q := by
  obtain ⟨m, e, h, as, r, h', a1, a2, ra, a3, a4⟩ := hyp
  obtain ⟨d, rfl, e3⟩ := lift_some a3
  exact ⟨m, h, as, d, h', a1, ra, e3, fun m' H' v x y z => a4 m' H' x y v z⟩
theorem opN_tG {as : List (M D)} {f : List D → DH → Option (D × DH)} {Q : VK} (hyp : tG G G.R (opN f as) σ H Q) : tCB (rDN G f) (tG G G.Rs (args as)) σ H Q :=
  (tG_bndL hyp).mono fun xs H1 h1 => tA_op h1
end
section
variable {X : Cx} {C : CE} {G : Pc} {F : Call} {S : Sm}
theorem setMark {op : CmpOp} {b : Expr} (h : isSetE b = false) : behindInMarks op b = false := by
  cases b <;> first | rfl | cases h
theorem e_name (f : Fit X C G F) (x : Str) (pos : Pos) : PE X (.Name x pos) (tG G G.R (stepE F S C (.Name x pos))) := by
  dsimp only [stepE]
  cases hv : visIx C x with
  | some i =>
    dsimp only
    obtain ⟨h1, h2, h3⟩ := f.vis hv
    obtain ⟨p1, p2, _⟩ := plain_ne h3
    cases hk : isHk C i with
    | true => exact PE.never fun σ H Q h => tG_stuck h
    | false =>
      refine PE.of (pe_var h1 h2 p1 p2) fun σ H Q h => ?_
      obtain ⟨m, e, hh, r, h', a1, a2, a3, a4⟩ := h
      have a3 : var i e hh = some (r, h') := a3
      dsimp only [var] at a3
      split at a3
      · rename_i d ed
        cases a3
        obtain ⟨v, e1, e2⟩ := a2.get (f.noHk hk) ed
        exact ⟨v, e1, a4 m H (Ext.refl _ _) a1 v e2⟩
      · cases a3
  | none =>
    dsimp only
    cases hg : glb C x with
    | false => exact PE.never fun σ H Q h => tG_stuck h
    | true =>
      simp only [if_true]
      cases hc : C.con.lookup x with
      | none => exact PE.never fun σ H Q h => tG_stuck h
      | some d =>
        dsimp only
        obtain ⟨g1, g2⟩ := f.glb hg
        obtain ⟨u, v, c1, c2, c3⟩ := f.con x d hc
        refine PE.of (pe_glob g1 c1 c2 (plain_ne g2).1) fun σ H Q h => ?_
        obtain ⟨m, e, hh, a1, a2, a3⟩ := tG_ret h
        exact a3 v (c3 m H)
theorem tA1_not {x : V} {σ : L2.St} {H : Hp} {Q : VK} (h : tA1 G x G.R (fun x => match x with | .bl b => (ret (.bl (!b)) : M D) | _ => stuck) σ H Q) : ∃ c, x = .bl c ∧ Q (.bl (!c)) H := by
  obtain ⟨m, e, hh, a, r, h', a1, a2, ra, a3, a4⟩ := h
  cases a with
  | bl b =>
    cases a3
    exact ⟨b, ra, a4 m H (Ext.refl _ _) a1 _ rfl⟩
  | _ => cases a3
theorem tA1_if {x : V} {σ : L2.St} {H : Hp} {Q : VK} {n1 n2 : M D} (h : tA1 G x G.R (fun x => match x with | .bl b => if b then n1 else n2 | _ => stuck) σ H Q) : ∃ c, x = .bl c ∧ (if c = true then tG G G.R n1 σ H Q else tG G G.R n2 σ H Q) := by
  obtain ⟨m, e, hh, a, r, h', a1, a2, ra, a3, a4⟩ := h
  cases a with
  | bl b =>
    refine ⟨b, ra, ?_⟩
    cases b with
    | true => exact ⟨m, e, hh, r, h', a1, a2, a3, a4⟩
    | false => exact ⟨m, e, hh, r, h', a1, a2, a3, a4⟩
  | _ => cases a3
theorem ret_bl {σ : L2.St} {H : Hp} {Q : VK} {b : Bool} (h : tG G G.R (ret (.bl b)) σ H Q) : Q (.bl b) H := by
  obtain ⟨m, e, hh, a1, a2, a3⟩ := tG_ret h
  exact a3 _ rfl
theorem andV_tG {ma mb : M D} {σ : L2.St} {H : Hp} {Q : VK} (h : tG G G.R (andV ma mb) σ H Q) : tAndV (tG G G.R ma) (tG G G.R mb) σ H Q :=
  (tG_bnd h).mono fun x H1 h1 => by
    obtain ⟨c, e, q⟩ := tA1_if h1
    refine ⟨c, e, ?_⟩
    cases c with
    | true => exact q
    | false => exact ret_bl q
theorem orV_tG {ma mb : M D} {σ : L2.St} {H : Hp} {Q : VK} (h : tG G G.R (orV ma mb) σ H Q) : tOrV (tG G G.R ma) (tG G G.R mb) σ H Q :=
  (tG_bnd h).mono fun x H1 h1 => by
    obtain ⟨c, e, q⟩ := tA1_if h1
    refine ⟨c, e, ?_⟩
    cases c with
    | true => exact ret_bl q
    | false => exact q
theorem ite_tG {α β : Type} {rel : List Addr → Hp → α → β → Prop} {t : M Bool} {ma mb : M α} {σ : L2.St} {H : Hp} {Q : β → Hp → Prop} (h : tG G rel (bnd t fun c => if c then ma else mb) σ H Q) :
    tG G relB t σ H fun c H1 => if c = true then tG G rel ma σ H1 Q else tG G rel mb σ H1 Q :=
  (tG_bndB h).mono fun c H1 h1 => by
    cases c with
    | true => exact h1
    | false => exact h1
theorem chn_tG {g1 g2 : D → D → DH → Option (D × DH)} {ma mb mc : M D} {σ : L2.St} {H : Hp} {Q : VK} (h : tG G G.R (chn g1 g2 ma mb mc) σ H Q) : tChain (rD2 G g1) (rD2 G g2) (tG G G.R ma) (tG G G.R mb) (tG G G.R mc) σ H Q := by
  refine (tG_bnd h).mono fun x H1 h1 => (tA1_bnd h1).mono fun y H2 h2 => ?_
  obtain ⟨m, e, hh, a, b, r, h', a1, a2, ra, rb, a3, a4⟩ := h2
  dsimp only [bnd, lift] at a3
  cases hg : g1 a b hh with
  | none => rw [hg] at a3; cases a3
  | some q =>
    obtain ⟨z, h1'⟩ := q
    rw [hg] at a3
    refine ⟨m, hh, a, b, z, h1', a1, ra, rb, hg, fun m' H' v xe rh rv => ?_⟩
    cases z with
    | bl k =>
      refine ⟨k, rv, ?_⟩
      cases k with
      | true =>
        have t : tA1 G y G.R (fun b => bnd mc fun u => lift (g2 b u)) σ H' Q := ⟨m', e, h1', b, r, h', rh, a2.ext xe, rb.ext xe, a3, fun m2 H2 x2 y2 => a4 m2 H2 (xe.trans x2) y2⟩
        exact (tA1_bnd t).mono fun u H3 h3 => tA2_op h3
      | false =>
        cases a3
        exact a4 m' H' xe rh _ rfl
    | _ => cases a3
end
end Dd

set_option Elab.async false
set_option linter.all false
set_option maxRecDepth 100000
set_option maxHeartbeats 4000000
namespace Dd
open PySem PySem.Spec PyProof.Rows L2

/-! # 15. Calls of built-ins, methods, displays -/
theorem lookup_mem {β : Type} : ∀ {l : List (Str × β)} {x : Str} {b : β}, l.lookup x = some b → (x, b) ∈ l
  | [], _, _, h => by cases h
  | (y, c) :: r, x, b, h => by
    rw [List.lookup_cons] at h
    cases hb : x == y with
    | true =>
      rw [hb] at h
      cases h
      rw [eq_of_beq hb]
      exact List.mem_cons_self
    | false =>
      rw [hb] at h
      exact List.mem_cons_of_mem _ (lookup_mem h)
theorem blt_nm {x : Str} {b : Blt} (h : (x, b) ∈ blts) : x ∈ bltNms :=
  List.mem_append_left _ (List.mem_append_left _ (List.mem_map.mpr ⟨(x, b), h, rfl⟩))
theorem typ_nm {x : Str} {b : String} (h : (x, b) ∈ typNames) : x ∈ bltNms :=
  List.mem_append_left _ (List.mem_append_right _ (List.mem_map.mpr ⟨(x, b), h, rfl⟩))
theorem kits : ∀ n ∈ ["NoneType", "bool", "int", "str", "tuple", "list", "dict"], ∀ T ∈ ["tuple", "str", "int", "bool", "list", "dict"], kitB n T = some (isTy T n) := by decide +kernel
theorem ty_rel {K : PySem.W.Frag} {w : World} {m : List Addr} {h : DH} {H : Hp} (r : RH K w m h H) {d : D} {x : V} {n : String} (q : tyName d h = some n) (g : RelD K w m H d x) : TyX K H x (.type n) ∧ n ∈ ["NoneType", "bool", "int", "str", "tuple", "list", "dict"] := by
  cases d with
  | non => cases q; rw [show x = _ from g]; exact ⟨.base .non, by decide⟩
  | bl b => cases q; rw [show x = _ from g]; exact ⟨.base (.bl b), by decide⟩
  | int b => cases q; rw [show x = _ from g]; exact ⟨.base (.int b), by decide⟩
  | str b => cases q; rw [show x = _ from g]; exact ⟨.base (.str b), by decide⟩
  | tup xs => cases q; obtain ⟨a, vs, rfl, ha, _⟩ := g; exact ⟨.base (.tup ha), by decide⟩
  | kt xs => cases q; obtain ⟨a, vs, rfl, ⟨o, _, _, e, c, _⟩, _⟩ := g; exact ⟨.kTuple e c, by decide⟩
  | frz xs =>
    cases q
    obtain ⟨a, rfl, hf⟩ := g
    rcases hf with ⟨o, hf⟩ | ⟨o, _, _, e, c, _⟩
    · exact ⟨.base (.frz hf), by decide⟩
    · exact ⟨.kList e c, by decide⟩
  | wd kvs => cases q; obtain ⟨a, es, k, rfl, kd, _⟩ := g; exact ⟨.kDict kd.at_ rfl, by decide⟩
  | ref i =>
    obtain ⟨a, ma, rfl⟩ := g
    unfold tyName at q
    dsimp only at q
    split at q
    · rename_i xs e
      cases q
      obtain ⟨ob, e3, vs, e4, _⟩ := r.get ma e
      subst e4
      exact ⟨.base (.lst e3), by decide⟩
    · rename_i xs e
      cases q
      obtain ⟨ob, e3, vs, e4, _⟩ := r.get ma e
      subst e4
      exact ⟨.base (.dK e3), by decide⟩
    · rename_i xs e
      cases q
      obtain ⟨ob, e3, vs, e4, _⟩ := r.get ma e
      subst e4
      exact ⟨.base (.dT e3), by decide⟩
    · cases q
theorem base_eq {o : Expr} {name : Str} {env : Env} (h : baseOk o = true) : attributeBase o name env (eval o env) = eval o env := by
  unfold attributeBase
  split
  · cases h
  · rfl
theorem nameBase (x : Str) (p : Pos) (name : Str) (env : Env) : attributeBase (.Name x p) name env (eval (.Name x p) env) = eval (.Name x p) env := rfl
section
variable {X : Cx} {C : CE} {G : Pc} {F : Call} {S : Sm}
theorem e_isin (f : Fit X C G F) {a : Expr} {T : Str} {t : String} {ma : M D} {p pT pos : Pos} (ha : PE X a (tG G G.R ma)) (hs : noStar a = true) (hg : glb C "isinstance" = true) (hT : glb C T = true) (ht : typNames.lookup T = some t) :
    PE X (.Call (.Name "isinstance" p) [a, .Name T pT] [] pos) (tG G G.R (op1 (isinD t) ma)) := by
  obtain ⟨K, W, cls, fld, Wx, hk⟩ := G
  have hK : X.K = K := f.K
  have hw : X.w = W := f.w
  subst hK hw
  have hm := lookup_mem ht
  have hTn := f.blt T (typ_nm hm)
  obtain ⟨g1, g2⟩ := f.glb hg
  obtain ⟨t1, t2⟩ := f.glb hT
  have hb : bootBuiltins T = some (.type t) ∧ t ∈ ["tuple", "str", "int", "bool", "list", "dict"] := by
    simp only [typNames, List.mem_cons, Prod.mk.injEq, List.not_mem_nil, or_false] at hm
    rcases hm with ⟨rfl, rfl⟩ | ⟨rfl, rfl⟩ | ⟨rfl, rfl⟩ | ⟨rfl, rfl⟩ | ⟨rfl, rfl⟩ | ⟨rfl, rfl⟩ <;> exact ⟨by decide +kernel, by decide⟩
  have hi : X.mg "isinstance" = none := f.blt _ (List.mem_append_right _ List.mem_cons_self)
  refine PE.of (pe_callB call_isi g1 hi (by decide +kernel) (pa_cons ha (pa_cons (pe_bltn (v := .ty t) t1 hTn hb.1 rfl (plain_ne t2).2.2 (plain_ne t2).1) pa_nil (star1 rfl [])) (star1 hs _)) (by decide) (by decide) (star1 hs _) rfl) fun σ H Q h => ?_
  refine (tG_bnd h).mono fun x H1 h1 => ?_
  obtain ⟨m, h, d, z, h', a1, ra, e, q⟩ := tA1_op h1
  obtain ⟨n, e1, e2⟩ := map_some e
  cases e2
  obtain ⟨y1, y2⟩ := ty_rel a1 e1 ra
  exact ⟨x, .ty t, _, _, _, rfl, .ty t, y1, kit_ty (kits n y2 t hb.2), q m H1 _ (Ext.refl _ _) a1 rfl⟩
theorem e_blt (f : Fit X C G F) {x : Str} {b : Blt} {e : Expr} {es : List Expr} {as : List (M D)} {p pos : Pos} (hb : blts.lookup x = some b) (hg : glb C x = true) (hc : (needsCalm b && !C.calm) = false)
    (hs : (e :: es).all noStar = true) (ha : PA X (e :: es) (tG G G.Rs (args as))) : PE X (.Call (.Name x p) (e :: es) [] pos) (tG G G.R (opN (bltD b) as)) := by
  have hm := lookup_mem hb
  have hx := f.blt x (blt_nm hm)
  obtain ⟨g1, g2⟩ := f.glb hg
  have hs' := hs
  rw [List.all_cons, Bool.and_eq_true] at hs'
  have he : starEach (e :: es) X.env = (false, eval e X.env) :: starEach es X.env := star1 hs'.1 es
  have hp : (backTo pos (starEach es X.env)).any (·.1) = false := star_any hs'.2
  have cal : needsCalm b = true → X.calm = true := fun z => by
    rw [z, Bool.true_and] at hc
    rw [f.calm]
    cases hcc : C.calm with
    | true => rfl
    | false => rw [hcc] at hc; cases hc
  simp only [blts, List.mem_cons, Prod.mk.injEq, List.not_mem_nil, or_false] at hm
  rcases hm with ⟨rfl, rfl⟩ | ⟨rfl, rfl⟩ | ⟨rfl, rfl⟩ | ⟨rfl, rfl⟩ | ⟨rfl, rfl⟩ | ⟨rfl, rfl⟩ | ⟨rfl, rfl⟩ | ⟨rfl, rfl⟩ | ⟨rfl, rfl⟩ | ⟨rfl, rfl⟩ | ⟨rfl, rfl⟩ | ⟨rfl, rfl⟩
  · exact PE.of (pe_callB (c_len f.K f.w) g1 hx (by decide +kernel) ha (by decide) (by decide) he hp) fun σ H Q h => opN_tG h
  · exact PE.of (pe_callB (c_abs f.K f.w) g1 hx (by decide +kernel) ha (by decide) (by decide) he hp) fun σ H Q h => opN_tG h
  · exact PE.of (pe_callTy (c_int f.K f.w) g1 hx (by decide +kernel) ha (by decide) (by decide) he hp) fun σ H Q h => opN_tG h
  · exact PE.of (pe_callTy (c_str f.K f.w) g1 hx (by decide +kernel) ha (by decide) (by decide) he hp) fun σ H Q h => opN_tG h
  · exact PE.of (pe_callTy (c_tuple f.K f.w) g1 hx (by decide +kernel) ha (by decide) (by decide) he hp) fun σ H Q h => opN_tG h
  · exact PE.of (pe_callTy (c_list f.K f.w) g1 hx (by decide +kernel) ha (by decide) (by decide) he hp) fun σ H Q h => opN_tG h
  · exact PE.of (pe_callB (c_all f.K f.w (cal rfl)) g1 hx (by decide +kernel) ha (by decide) (by decide) he hp) fun σ H Q h => opN_tG h
  · exact PE.of (pe_callB (c_any f.K f.w (cal rfl)) g1 hx (by decide +kernel) ha (by decide) (by decide) he hp) fun σ H Q h => opN_tG h
  · exact PE.of (pe_callB (c_ord f.K f.w) g1 hx (by decide +kernel) ha (by decide) (by decide) he hp) fun σ H Q h => opN_tG h
  · exact PE.of (pe_callB (c_repr f.K f.w f.un f.gd) g1 hx (by decide +kernel) ha (by decide) (by decide) he hp) fun σ H Q h => opN_tG h
  · exact PE.of (pe_callB (c_min f.K f.w (cal rfl)) g1 hx (by decide +kernel) ha (by decide) (by decide) he hp) fun σ H Q h => opN_tG h
  · exact PE.of (pe_callB (c_max f.K f.w (cal rfl)) g1 hx (by decide +kernel) ha (by decide) (by decide) he hp) fun σ H Q h => opN_tG h
/-- a def of the program -/
theorem e_fn (f : Fit X C G F) {x : Str} {i ar : Nat} {e : Expr} {es : List Expr} {as : List (M D)} {p pos : Pos} (hx : fnIx x C.fns 0 = some (i, ar)) (hg : glb C x = true) (hc : C.calm = true) (hs : (e :: es).all noStar = true)
    (ha : PA X (e :: es) (tG G G.Rs (args as))) : PE X (.Call (.Name x p) (e :: es) [] pos) (tG G G.R (callM F i as)) := by
  obtain ⟨fa, n, h1, h2, h3, h4⟩ := f.fns hc x i ar hx
  obtain ⟨g1, g2⟩ := f.glb hg
  have hs' := hs
  rw [List.all_cons, Bool.and_eq_true] at hs'
  refine PE.of (pe_callG h4 h3 f.gd g1 h1 h2 f.tk ha (plain_ne g2).1 (star1 hs'.1 es) (star_any hs'.2)) fun σ H Q h => ?_
  refine (tG_bndL h).mono fun xs H1 h1 => ?_
  obtain ⟨m, e', hh, ds, r, h', a1, a2, ra, a3, a4⟩ := h1
  refine ⟨m, hh, ds, r, h', a1, ra, a3, fun m' H' x' y' => ?_⟩
  have z := a4 m' H' x' y'
  cases r with
  | ok d => exact z
  | ex c p => exact z
theorem mths_nm {x : Str} {b : Mth} (h : mths.lookup x = some b) : (x = "append" ∧ b = .append) ∨ (x = "extend" ∧ b = .extend) ∨ (x = "pop" ∧ b = .pop) ∨ (x = "join" ∧ b = .join) := by
  have hm := lookup_mem h
  simp only [mths, List.mem_cons, Prod.mk.injEq, List.not_mem_nil, or_false] at hm
  exact hm
def mthTy : Mth → String
  | .join => "str"
  | _ => "list"
/-- the type of a receiver of ours -/
theorem mth_ty (hK : X.K = G.K) (hw : X.w = G.w) {m : List Addr} {h : DH} {H : Hp} (r : G.H m h H) {k : Mth} {d : D} {x : V} (q : mthOk k d h = true) (g : G.R m H d x) : tyV X.K (mthTy k) x H := by
  obtain ⟨K, W, cls, fld, Wx, hk⟩ := G
  cases hK
  cases hw
  have lst : ∀ {i : Nat}, (lstAt h i).isSome = true → RelD X.K X.w m H (.ref i) x → tyV X.K "list" x H := fun {i} e g => by
    obtain ⟨xs, ex⟩ := Option.isSome_iff_exists.mp e
    obtain ⟨p, vs, rfl, mp, hp, gp⟩ := ref_lst r g ex
    exact .inl ⟨rfl, vs, SqL.of hp⟩
  cases k with
  | join => cases d <;> first | (cases q; done) | (rw [show x = _ from g]; exact rfl)
  | append => cases d <;> first | (cases q; done) | exact lst q g
  | extend => cases d <;> first | (cases q; done) | exact lst q g
  | pop => cases d <;> first | (cases q; done) | exact lst q g
theorem e_mth (f : Fit X C G F) {x : Str} {k : Mth} {o : Expr} {es : List Expr} {mo : M D} {as : List (M D)} {ap pos : Pos} (hx : mths.lookup x = some k) (hl : (ap.endLine == pos.line) = true) (hb : baseOk o = true)
    (hs : es.all noStar = true) (hn : es.length < 30) (ho : PE X o (tG G G.R mo)) (ha : PA X es (tG G G.Rs (args as))) (hz : es = [] → k = .pop ∧ as = []) : PE X (.Call (.Attribute o x ap) es [] pos) (tG G G.R (mthM k mo as)) := by
  have main : ∀ {σ H Q}, tG G G.R (mthM k mo as) σ H Q → tBM X.K (mthTy k) (rDM G (mthD k)) (tG G G.R mo) (tG G G.Rs (args as)) σ H Q := by
    intro σ H Q h
    refine (tG_bnd h).mono fun x H1 h1 => ?_
    obtain ⟨m, e, hh, a, r, h', a1, a2, ra, a3, a4⟩ := h1
    dsimp only [bnd, lift] at a3
    cases hk : mthOk k a hh with
    | false => rw [hk] at a3; cases a3
    | true =>
      rw [hk] at a3
      refine ⟨mth_ty f.K f.w a1 hk ra, ?_⟩
      have t : tA1 G x G.R (fun a => bnd (args as) fun xs => lift (mthD k a xs)) σ H1 Q := ⟨m, e, hh, a, r, h', a1, a2, ra, a3, a4⟩
      refine (tA1_bndL t).mono fun xs H2 h2 => ?_
      obtain ⟨m2, e2, h2', b, ds, r2, h3, b1, b2, rb, rds, b3, b4⟩ := h2
      obtain ⟨d, rfl, e3⟩ := lift_some b3
      exact ⟨m2, h2', b, ds, d, h3, b1, rb, rds, e3, fun m' H' v x y z => b4 m' H' x y v z⟩
  cases es with
  | nil =>
    obtain ⟨rfl, rfl⟩ := hz rfl
    have ex : x = "pop" := by
      rcases mths_nm hx with ⟨_, z⟩ | ⟨_, z⟩ | ⟨z, _⟩ | ⟨_, z⟩ <;> first | exact z | cases z
    subst ex
    refine PE.of (pe_bm0 PySem.F.plainAttrs_list PySem.F.slot_list_pop PySem.F.type_list_pop (m_pop f.K f.w) ho (base_eq hb) hl) fun σ H Q h => (main h).mono fun x H1 h1 => ⟨h1.1, ?_⟩
    obtain ⟨m, e, hh, r, h', a1, a2, a3, a4⟩ := h1.2
    cases a3
    exact a4 m H1 (Ext.refl _ _) a1 [] rfl
  | cons e es =>
    have hs' := hs
    rw [List.all_cons, Bool.and_eq_true] at hs'
    have he : starEach (e :: es) X.env = (false, eval e X.env) :: starEach es X.env := star1 hs'.1 es
    have hp : (backTo pos (starEach es X.env)).any (·.1) = false := star_any hs'.2
    have hf : ((backTo pos (starEach (e :: es) X.env)).all (fun x => !x.1) && (backToKw pos (keywordEach [] X.env)).all (fun x => x.1.isSome) && decide ((e :: es).length + ([] : List Keyword).length + (if ([] : List Keyword).isEmpty then 0 else 1) < 30)) = true := by
      have z := star_any (env := X.env) (pos := pos) hs
      have z1 : (backTo pos (starEach (e :: es) X.env)).all (fun x => !x.1) = true := by
        rw [List.all_eq_true]
        intro y hy
        cases hyy : y.1 with
        | false => rfl
        | true =>
          have : (backTo pos (starEach (e :: es) X.env)).any (·.1) = true := List.any_eq_true.mpr ⟨y, hy, hyy⟩
          rw [z] at this; cases this
      rw [z1]
      exact decide_eq_true hn
    rcases mths_nm hx with ⟨rfl, rfl⟩ | ⟨rfl, rfl⟩ | ⟨rfl, rfl⟩ | ⟨rfl, rfl⟩
    · exact PE.of (pe_bm PySem.F.plainAttrs_list PySem.F.slot_list_append PySem.F.type_list_append (m_append f.K f.w) ho ha (base_eq hb) hf hl he hp) fun σ H Q h => main h
    · exact PE.of (pe_bm PySem.F.plainAttrs_list PySem.F.slot_list_extend PySem.F.type_list_extend (m_extend f.K f.w) ho ha (base_eq hb) hf hl he hp) fun σ H Q h => main h
    · exact PE.of (pe_bm PySem.F.plainAttrs_list PySem.F.slot_list_pop PySem.F.type_list_pop (m_pop f.K f.w) ho ha (base_eq hb) hf hl he hp) fun σ H Q h => main h
    · exact PE.of (pe_bm PySem.F.plainAttrs_str PySem.F.slot_str_join PySem.F.type_str_join (m_join f.K f.w) ho ha (base_eq hb) hf hl he hp) fun σ H Q h => main h
end
end Dd

set_option Elab.async false
set_option linter.all false
set_option maxRecDepth 100000
set_option maxHeartbeats 4000000
namespace Dd
open PySem PySem.Spec PyProof.Rows L2

/-! # 16. What is walked -/
def Drv (G : Pc) (s : Src) (m0 : List Addr) (H0 : Hp) (J : It) : Prop := ∀ m h H, Ext m0 H0 m H → G.H m h H →
  (∀ k d, s.at_ k h = some d → J.go k H ∧ ∀ x H', J.yld k H x H' → Ext m H m H' ∧ G.H m h H' ∧ G.R m H' d x) ∧ (s.done h = true → J.stop s.len H)
def iG (G : Pc) (M : M Src) : TI := fun σ H R => ∃ m e h r h', G.H m h H ∧ EnvR G m H e σ ∧ M e h = some (r, h') ∧ ∀ m' H', Ext m H m' H' → G.H m' h' H' → match r with
  | .ok s => ∀ J, Drv G s m' H' J → R J H'
  | .ex c p => ∀ cv d, ExcAt G m' H' c p cv d → G.W cv d σ H'
def OkI (S : Sm) (F : Call) : Prop := ∀ (X : Cx) (C : CE) (G : Pc), Fit X C G F → ∀ tg e, PI X tg e (iG G (S.I C tg e))
theorem PI.of {X : Cx} {tg e : Expr} {t t' : TI} (h : PI X tg e t) (w : ∀ σ H Q, t' σ H Q → t σ H Q) : PI X tg e t' := ⟨fun pins s σ H Q I q => h.run pins s σ H Q I (w σ H Q q)⟩
section
variable {K : PySem.W.Frag} {w : World} {cls : Nat → Addr} {fld : Nat → Str} {Wx : WX} {hk : Option (Nat × Addr × Addr × Str)} {m0 : List Addr} {H0 : Hp}
theorem drv_tup {a : Addr} {xs : List D} {vs : List V} (ha : SqT K H0 a vs) (st : ∀ m H, Ext m0 H0 m H → SqT K H a vs) (g : RelDs K w m0 H0 xs vs) : Drv ⟨K, w, cls, fld, Wx, hk⟩ (.items xs) m0 H0 (Itt K a) := by
  intro m h H x r
  refine ⟨fun k d e => ?_, fun _ => ⟨vs, st m H x, by rw [g.length]; exact Nat.le_refl _⟩⟩
  have e : xs[k]? = some d := e
  obtain ⟨v, e1, e2⟩ := g.get e
  refine ⟨⟨vs, v, st m H x, e1⟩, fun y H' hy => ?_⟩
  obtain ⟨rfl, hy⟩ := hy
  have := hy vs (st m _ x)
  rw [e1] at this; cases this
  exact ⟨Ext.refl _ _, r, e2.ext x⟩
theorem drv_frz {a : Addr} {ns : List Int} (ha : FrzL K H0 a (ns.map V.int)) : Drv ⟨K, w, cls, fld, Wx, hk⟩ (.items (ns.map D.int)) m0 H0 (Itl K a) := by
  intro m h H x r
  have st : SqL K H a (ns.map V.int) := (ha.ext x).sq
  refine ⟨fun k d e => ?_, fun _ => ⟨_, st, by rw [List.length_map]; exact Nat.le_of_eq (List.length_map _).symm⟩⟩
  have e : (ns.map D.int)[k]? = some d := e
  obtain ⟨v, e1, e2⟩ := RelDs.get (K := K) (w := w) (m := m) (H := H) (ints_rel ns) e
  refine ⟨⟨_, v, st, e1⟩, fun y H' hy => ?_⟩
  obtain ⟨rfl, hy⟩ := hy
  have := hy _ st
  rw [e1] at this; cases this
  exact ⟨Ext.refl _ _, r, e2⟩
theorem drv_live {i : Nat} {a : Addr} {n : Nat} (ha : m0[i]? = some a) : Drv ⟨K, w, cls, fld, Wx, hk⟩ (.live i n) m0 H0 (Itl K a) := by
  intro m h H x r
  have ma := x.ix ha
  refine ⟨fun k d e => ?_, fun e => ?_⟩
  · dsimp only [Src.at_] at e
    split at e
    · rename_i xs ex
      split at e
      · obtain ⟨p, vs, e1, mp, hp, gp⟩ := ref_lst (K := K) (w := w) r (x := .ref a) ⟨a, ma, rfl⟩ ex
        cases e1
        obtain ⟨v, e2, e3⟩ := gp.get e
        refine ⟨⟨vs, v, SqL.of hp, e2⟩, fun y H' hy => ?_⟩
        obtain ⟨rfl, hy⟩ := hy
        have := hy vs (SqL.of hp)
        rw [e2] at this; cases this
        exact ⟨Ext.refl _ _, r, e3⟩
      · cases e
    · cases e
  · dsimp only [Src.done] at e
    split at e
    · rename_i xs ex
      obtain ⟨p, vs, e1, mp, hp, gp⟩ := ref_lst (K := K) (w := w) r (x := .ref a) ⟨a, ma, rfl⟩ ex
      cases e1
      exact ⟨vs, SqL.of hp, by rw [gp.length, of_decide_eq_true e]; exact Nat.le_refl _⟩
    · cases e
theorem drv_str (x : Str) : Drv ⟨K, w, cls, fld, Wx, hk⟩ (.items (signs x)) m0 H0 (Its x) := by
  intro m h H _ r
  refine ⟨fun k d e => ?_, fun _ => ?_⟩
  · have e : (signs x)[k]? = some d := e
    unfold signs at e
    rw [List.getElem?_map] at e
    obtain ⟨c, e1, e2⟩ := map_some e
    subst e2
    have e1 : x.cps[k]? = some c := by rw [← Array.getElem?_toList]; exact e1
    refine ⟨(Array.getElem?_eq_some_iff.mp e1).1, fun y H' hy => ?_⟩
    obtain ⟨rfl, c', e3, rfl⟩ := hy
    rw [e1] at e3; cases e3
    exact ⟨Ext.refl _ _, r, rfl⟩
  · show x.cps.size ≤ (signs x).length
    unfold signs
    rw [List.length_map, Array.length_toList]
    exact Nat.le_refl _
theorem drv_rng (lo : Int) (n : Nat) : Drv ⟨K, w, cls, fld, Wx, hk⟩ (rngs lo n) m0 H0 (Itr lo n) := by
  intro m h H _ r
  refine ⟨fun k d e => ?_, fun _ => ?_⟩
  · have e : ((List.range n).map fun k => D.int (lo + (k : Nat)))[k]? = some d := e
    rw [List.getElem?_map] at e
    obtain ⟨c, e1, e2⟩ := map_some e
    subst e2
    obtain ⟨hk, e1⟩ := List.getElem?_eq_some_iff.mp e1
    rw [List.length_range] at hk
    rw [List.getElem_range] at e1
    subst e1
    refine ⟨hk, fun y H' hy => ?_⟩
    obtain ⟨rfl, rfl⟩ := hy
    exact ⟨Ext.refl _ _, r, rfl⟩
  · show n ≤ ((List.range n).map _).length
    rw [List.length_map, List.length_range]
    exact Nat.le_refl _
theorem drv_rngC (c : Int) (n : Nat) : Drv ⟨K, w, cls, fld, Wx, hk⟩ (rngsC c n) m0 H0 (Itc 0 c n) := by
  intro m h H _ r
  refine ⟨fun k d e => ?_, fun _ => ?_⟩
  · have e : ((List.range n).map fun k => D.int ((k : Nat) * c))[k]? = some d := e
    rw [List.getElem?_map] at e
    obtain ⟨c', e1, e2⟩ := map_some e
    subst e2
    obtain ⟨hk, e1⟩ := List.getElem?_eq_some_iff.mp e1
    rw [List.length_range] at hk
    rw [List.getElem_range] at e1
    subst e1
    refine ⟨hk, fun y H' hy => ?_⟩
    obtain ⟨rfl, rfl⟩ := hy
    refine ⟨Ext.refl _ _, r, ?_⟩
    show V.int _ = V.int _
    rw [Int.zero_add]
  · show n ≤ ((List.range n).map _).length
    rw [List.length_map, List.length_range]
    exact Nat.le_refl _
theorem drv_zip {a b : Addr} {xs ys : List D} {vs us : List V} (ha : H0 a = some (.tup vs)) (hb : H0 b = some (.tup us)) (ga : RelDs K w m0 H0 xs vs) (gb : RelDs K w m0 H0 ys us) :
    Drv ⟨K, w, cls, fld, Wx, hk⟩ (.items ((xs.zip ys).map fun p => .tup [p.1, p.2])) m0 H0 (RZ.ItzT K a b) := by
  intro m h H x r
  have sa : SqT K H a vs := SqT.of (x.imm a _ rfl ha)
  have sb : SqT K H b us := SqT.of (x.imm b _ rfl hb)
  refine ⟨fun k d e => ?_, fun _ => ?_⟩
  · have e : ((xs.zip ys).map fun p => D.tup [p.1, p.2])[k]? = some d := e
    rw [List.getElem?_map] at e
    obtain ⟨p, e1, e2⟩ := map_some e
    subst e2
    obtain ⟨e3, e4⟩ := List.getElem?_zip_eq_some.mp e1
    obtain ⟨v, v1, v2⟩ := ga.get e3
    obtain ⟨u, u1, u2⟩ := gb.get e4
    refine ⟨⟨vs, us, v, u, sa, sb, v1, u1⟩, fun y H' hy => ?_⟩
    obtain ⟨T, y1, y2, rfl, hT, rfl, f1, f2⟩ := hy
    have q1 := f1 vs sa
    have q2 := f2 us sb
    rw [v1] at q1; cases q1
    rw [u1] at q2; cases q2
    have gd : RelDs K w m H [p.1, p.2] [v, u] := .cons (v2.ext x) (.cons (u2.ext x) .nil)
    obtain ⟨b1, b2, b3⟩ := new_tup r hT gd
    exact ⟨b2, b1, b3⟩
  · refine ⟨vs, us, sa, sb, ?_⟩
    show vs.length ≤ ((xs.zip ys).map _).length ∨ us.length ≤ ((xs.zip ys).map _).length
    rw [List.length_map, List.length_zip, ga.length, gb.length]
    omega
end
section
variable {X : Cx} {C : CE} {G : Pc} {F : Call} {S : Sm}
theorem bnd_some {α β : Type} {M : Dd.M α} {k : α → Dd.M β} {e : DE} {h h' : DH} {r : Rs β} (q : bnd M k e h = some (r, h')) : (∃ c p, M e h = some (.ex c p, h') ∧ r = .ex c p) ∨ ∃ a h1, M e h = some (.ok a, h1) ∧ k a e h1 = some (r, h') := by
  dsimp only [bnd] at q
  cases hm : M e h with
  | none => rw [hm] at q; cases q
  | some p =>
    obtain ⟨r1, h1⟩ := p
    rw [hm] at q
    cases r1 with
    | ex c p => cases q; exact .inl ⟨c, p, rfl, rfl⟩
    | ok a => exact .inr ⟨a, h1, rfl, q⟩
theorem rng3_ok {j c : Int} (h1 : 0 ≤ j) (h2 : j < 4611686018427387904) (h3 : 1 ≤ c) (h4 : c < 1073741824) : RgC 0 j c ((j + c - 1) / c).toNat := by
  have sz := PyProof.Rows.rangeSize_pos (len := j) (c := c) h3 h1
  have nn : 0 ≤ (j + c - 1) / c := Int.ediv_nonneg (by omega) (by omega)
  refine ⟨by omega, by omega, ?_, by rw [sz, Int.toNat_of_nonneg nn]⟩
  have mul : (j + c - 1) / c * c ≤ j + c - 1 := Int.ediv_mul_le _ (by omega)
  have le : (j + c - 1) / c ≤ j + c - 1 := by
    have := Int.ediv_le_self (c) (show 0 ≤ j + c - 1 by omega)
    exact this
  unfold Builtin.Range.small
  rw [sz]
  simp only [Builtin.Range.rangeFitsLong, Bool.and_eq_true, Bool.or_eq_true, decide_eq_true_eq, beq_iff_eq]
  generalize (j + c - 1) / c = q at *
  have b1 : (2 : Int) ^ 63 = 9223372036854775808 := by decide
  refine ⟨by omega, .inr ?_⟩
  rw [if_pos (by omega), decide_eq_true (by omega : -2 ^ 63 ≤ j + (c - 1)), decide_eq_true (by omega : j + (c - 1) < 2 ^ 63)]
  rfl
/-- anything that may be walked by its value -/
theorem i_any (f : Fit X C G F) {tg e : Expr} (hE : PE X e (tG G G.R (S.E C e))) : PI X tg e (iG G (anyI S C e)) := by
  obtain ⟨K, W, cls, fld, Wx, hk⟩ := G
  have hK : X.K = K := f.K
  have hw : X.w = W := f.w
  subst hK hw
  refine ⟨fun pins s σ H R I hyp => ?_⟩
  obtain ⟨m, e0, h, r, h', a1, a2, a3, a4⟩ := hyp
  unfold anyI at a3
  split at a3
  · cases a3
  rcases bnd_some a3 with ⟨c, p, e1, rfl⟩ | ⟨d, h1, e1, e2⟩
  · exact (pi_list (tg := tg) hE).run pins s σ H R I ⟨m, e0, h, _, h', a1, a2, e1, fun m' H' x y => a4 m' H' x y⟩
  · obtain ⟨sr, rfl, e3⟩ := lift_some e2
    unfold srcD at e3
    cases d with
    | tup xs =>
      cases e3
      refine (pi_tup (tg := tg) hE).run pins s σ H R I ⟨m, e0, h, _, h', a1, a2, e1, fun m' H' x y v g => ?_⟩
      obtain ⟨a, vs, rfl, ha, ga⟩ := g
      exact ⟨a, rfl, ⟨vs, SqT.of ha⟩, a4 m' H' x y _ (drv_tup (SqT.of ha) (fun m2 H2 x2 => SqT.of (x2.imm a _ rfl ha)) ga)⟩
    | kt xs =>
      cases e3
      refine (pi_tup (tg := tg) hE).run pins s σ H R I ⟨m, e0, h, _, h', a1, a2, e1, fun m' H' x y v g => ?_⟩
      obtain ⟨a, vs, rfl, ha, ga⟩ := g
      exact ⟨a, rfl, ⟨vs, ha.sq⟩, a4 m' H' x y _ (drv_tup ha.sq (fun m2 H2 x2 => ha.sq) (RelKs.relDs xs vs ga))⟩
    | str z =>
      cases e3
      refine (pi_str (tg := tg) hE).run pins s σ H R I ⟨m, e0, h, _, h', a1, a2, e1, fun m' H' x y v g => ?_⟩
      exact ⟨z, g, a4 m' H' x y _ (drv_str z)⟩
    | frz ns =>
      cases e3
      refine (pi_list (tg := tg) hE).run pins s σ H R I ⟨m, e0, h, _, h', a1, a2, e1, fun m' H' x y v g => ?_⟩
      obtain ⟨a, rfl, ha⟩ := g
      exact ⟨a, rfl, ⟨_, ha.sq⟩, a4 m' H' x y _ (drv_frz ha)⟩
    | ref i =>
      obtain ⟨xs, ex, e4⟩ := map_some e3
      cases e4
      refine (pi_list (tg := tg) hE).run pins s σ H R I ⟨m, e0, h, _, h', a1, a2, e1, fun m' H' x y v g => ?_⟩
      obtain ⟨p, vs, rfl, mp, hp, gp⟩ := ref_lst y g ex
      exact ⟨p, rfl, ⟨vs, SqL.of hp⟩, a4 m' H' x y _ (drv_live mp)⟩
    | _ => cases e3
theorem in62_iff {i : Int} (h : in62 i = true) : -(2 ^ 62) ≤ i ∧ i < 2 ^ 62 := by
  have z := below_iff.mp h
  omega
theorem ok_I (hE : OkE S F) : OkI (stepQ F S) F := by
  intro X C G f tg e
  have iE := hE X C G f
  have iA := i_any f (tg := tg) (iE e)
  show PI X tg e (iG G (stepI S C tg e))
  unfold stepI
  split
  · rename_i fn a hc
    split
    · rename_i hf
      subst hf
      split
      · rename_i hg
        rw [Bool.and_eq_true] at hg
        obtain ⟨g1, g2⟩ := f.glb hg.1
        have he : ∃ p pos, e = .Call (.Name "range" p) [a] [] pos := by
          unfold callOf at hc
          split at hc
          · cases hc; exact ⟨_, _, rfl⟩
          · cases hc
        obtain ⟨p, pos, rfl⟩ := he
        have hm : X.mg "range" = none := f.blt _ (List.mem_append_right _ (List.mem_cons_of_mem _ List.mem_cons_self))
        refine PI.of (pi_range1 g1 hm (pa_cons (iE a) pa_nil (star1 hg.2 [])) (star1 hg.2 [])) fun σ H R h => ?_
        obtain ⟨m, e0, hh, r, h', a1, a2, a3, a4⟩ := h
        rcases bnd_some a3 with ⟨c, p, e1, rfl⟩ | ⟨d, h1, e1, e2⟩
        · exact ⟨m, e0, hh, _, h', a1, a2, e1, fun m' H' x y => a4 m' H' x y⟩
        · obtain ⟨sr, rfl, e3⟩ := lift_some e2
          refine ⟨m, e0, hh, _, h1, a1, a2, e1, fun m' H' x y v g => ?_⟩
          unfold rng1 at e3
          split at e3
          · split at e3
            · rename_i j hz
              cases e3
              obtain ⟨z1, z2⟩ := in62_iff hz
              obtain ⟨K, W, cls, fld, Wx, hk⟩ := G
              exact ⟨j, by rw [show v = _ from g], z1, z2, a4 m' H' x y _ (drv_rng 0 _)⟩
            · cases e3
          · cases e3
      · exact PI.of iA (fun σ H R h => by
          obtain ⟨m, e0, hh, r, h', a1, a2, a3, a4⟩ := h
          cases a3)
    · exact iA
  · rename_i fn a b hc
    split
    · rename_i hf
      subst hf
      split
      · rename_i hg
        rw [Bool.and_eq_true, Bool.and_eq_true] at hg
        obtain ⟨g1, g2⟩ := f.glb hg.1.1
        have he : ∃ p pos, e = .Call (.Name "range" p) [a, b] [] pos := by
          unfold callOf at hc
          split at hc
          · cases hc; exact ⟨_, _, rfl⟩
          · cases hc
        obtain ⟨p, pos, rfl⟩ := he
        have hm : X.mg "range" = none := f.blt _ (List.mem_append_right _ (List.mem_cons_of_mem _ List.mem_cons_self))
        refine PI.of (pi_range2 g1 hm (pa_cons (iE a) (pa_cons (iE b) pa_nil (star1 hg.2 [])) (star1 hg.1.2 _)) (by rw [star1 hg.1.2, star1 hg.2]; rfl) (star1 hg.2 [])) fun σ H R h => ?_
        have t1 : tG G G.R (S.E C a) σ H (fun x H1 => ∃ m e h d r h', G.H m h H1 ∧ EnvR G m H1 e σ ∧ G.R m H1 d x ∧ bnd (S.E C b) (fun y => lift (rng2 d y)) e h = some (r, h') ∧ ∀ m' H', Ext m H1 m' H' → G.H m' h' H' → match r with
            | .ok s => ∀ J, Drv G s m' H' J → R J H'
            | .ex c p => ∀ cv d, ExcAt G m' H' c p cv d → G.W cv d σ H') := by
          obtain ⟨m, e0, hh, r, h', a1, a2, a3, a4⟩ := h
          rcases bnd_some a3 with ⟨c, p, e1, rfl⟩ | ⟨d, h1, e1, e2⟩
          · exact ⟨m, e0, hh, _, h', a1, a2, e1, fun m' H' x y => a4 m' H' x y⟩
          · exact ⟨m, e0, hh, _, h1, a1, a2, e1, fun m' H' x y v g => ⟨m', e0, h1, d, r, h', y, a2.ext x, g, e2, fun m2 H2 x2 y2 => a4 m2 H2 (x.trans x2) y2⟩⟩
        refine t1.mono fun x H1 h1 => ?_
        obtain ⟨m, e0, hh, d, r, h', a1, a2, rd, a3, a4⟩ := h1
        rcases bnd_some a3 with ⟨c, p, e1, rfl⟩ | ⟨d2, h2, e1, e2⟩
        · exact ⟨m, e0, hh, _, h', a1, a2, e1, fun m' H' x y => a4 m' H' x y⟩
        · obtain ⟨sr, rfl, e3⟩ := lift_some e2
          refine ⟨m, e0, hh, _, h2, a1, a2, e1, fun m' H' x' y' v g => ?_⟩
          unfold rng2 at e3
          split at e3
          · split at e3
            · rename_i i j hz
              cases e3
              rw [Bool.and_eq_true] at hz
              obtain ⟨z1, z2⟩ := in62_iff hz.1
              obtain ⟨z3, z4⟩ := in62_iff hz.2
              obtain ⟨K, W, cls, fld, Wx, hk⟩ := G
              exact ⟨i, j, by rw [show v = _ from g, show x = _ from rd], ⟨z1, z2, z3, z4⟩, a4 m' H' x' y' _ (drv_rng i _)⟩
            · cases e3
          · cases e3
      · exact PI.of iA (fun σ H R h => by
          obtain ⟨m, e0, hh, r, h', a1, a2, a3, a4⟩ := h
          cases a3)
    · split
      · rename_i hf
        subst hf
        split
        · rename_i hg
          rw [Bool.and_eq_true, Bool.and_eq_true, Bool.and_eq_true] at hg
          obtain ⟨⟨⟨hg0, hg1⟩, hg2⟩, hg3⟩ := hg
          obtain ⟨g1, g2⟩ := f.glb hg0
          have he : ∃ p pos, e = .Call (.Name "zip" p) [a, b] [] pos := by
            unfold callOf at hc
            split at hc
            · cases hc; exact ⟨_, _, rfl⟩
            · cases hc
          obtain ⟨p, pos, rfl⟩ := he
          have ht : ∃ es k tp, tg = .Tuple es k tp := by
            cases tg <;> first | exact ⟨_, _, _, rfl⟩ | cases hg3
          obtain ⟨es, kk, tp, rfl⟩ := ht
          have hm : X.mg "zip" = none := f.blt _ (List.mem_append_right _ (List.mem_cons_of_mem _ (List.mem_cons_of_mem _ (List.mem_cons_of_mem _ List.mem_cons_self))))
          refine PI.of (RZ.pi_zipA g1 hm (pa_cons (iE a) (pa_cons (iE b) pa_nil (star1 hg2 [])) (star1 hg1 _)) (star1 hg1 _) (by rw [star1 hg2]; rfl)) fun σ H R h => ?_
          have t1 : tG G G.R (S.E C a) σ H (fun x H1 => ∃ m e h d r h', G.H m h H1 ∧ EnvR G m H1 e σ ∧ G.R m H1 d x ∧ bnd (S.E C b) (fun y => lift (zipD d y)) e h = some (r, h') ∧ ∀ m' H', Ext m H1 m' H' → G.H m' h' H' → match r with
              | .ok s => ∀ J, Drv G s m' H' J → R J H'
              | .ex c p => ∀ cv d, ExcAt G m' H' c p cv d → G.W cv d σ H') := by
            obtain ⟨m, e0, hh, r, h', a1, a2, a3, a4⟩ := h
            rcases bnd_some a3 with ⟨c, p, e1, rfl⟩ | ⟨d, h1, e1, e2⟩
            · exact ⟨m, e0, hh, _, h', a1, a2, e1, fun m' H' x y => a4 m' H' x y⟩
            · exact ⟨m, e0, hh, _, h1, a1, a2, e1, fun m' H' x y v g => ⟨m', e0, h1, d, r, h', y, a2.ext x, g, e2, fun m2 H2 x2 y2 => a4 m2 H2 (x.trans x2) y2⟩⟩
          refine t1.mono fun x H1 h1 => ?_
          obtain ⟨m, e0, hh, d, r, h', a1, a2, rd, a3, a4⟩ := h1
          rcases bnd_some a3 with ⟨c, p, e1, rfl⟩ | ⟨d2, h2, e1, e2⟩
          · exact ⟨m, e0, hh, _, h', a1, a2, e1, fun m' H' x y => a4 m' H' x y⟩
          · obtain ⟨sr, rfl, e3⟩ := lift_some e2
            refine ⟨m, e0, hh, _, h2, a1, a2, e1, fun m' H' x' y' v g => ?_⟩
            unfold zipD at e3
            split at e3
            · cases e3
              have hK := f.K
              have rd2 := rd.ext x'
              obtain ⟨K, W, cls, fld, Wx, hk⟩ := G
              have hK : X.K = K := hK
              subst hK
              obtain ⟨a, vs, rfl, ha, ga⟩ := rd2
              obtain ⟨b, us, rfl, hb, gb⟩ := g
              exact ⟨a, b, vs, us, rfl, .inr ⟨SqT.of ha, SqT.of hb, a4 m' H' x' y' _ (drv_zip ha hb ga gb)⟩⟩
            · cases e3
        · exact PI.of iA (fun σ H R h => by
            obtain ⟨m, e0, hh, r, h', a1, a2, a3, a4⟩ := h
            cases a3)
      · exact iA
  · rename_i fn a b c hc
    split
    · rename_i hf
      subst hf
      split
      · rename_i hg
        rw [Bool.and_eq_true, Bool.and_eq_true, Bool.and_eq_true] at hg
        obtain ⟨⟨⟨hg0, hg1⟩, hg2⟩, hg3⟩ := hg
        obtain ⟨g1, g2⟩ := f.glb hg0
        have he : ∃ p pos, e = .Call (.Name "range" p) [a, b, c] [] pos := by
          unfold callOf at hc
          split at hc
          · cases hc; exact ⟨_, _, rfl⟩
          · cases hc
        obtain ⟨p, pos, rfl⟩ := he
        have hm : X.mg "range" = none := f.blt _ (List.mem_append_right _ (List.mem_cons_of_mem _ List.mem_cons_self))
        refine PI.of (pi_range3 g1 hm (pa_cons (iE a) (pa_cons (iE b) (pa_cons (iE c) pa_nil (star1 hg3 [])) (star1 hg2 _)) (star1 hg1 _)) (star1 hg1 _) (by rw [star1 hg2, star1 hg3]; rfl)) fun σ H R h => ?_
        have t1 : tG G G.R (S.E C a) σ H (fun x H1 => ∃ m e h d r h', G.H m h H1 ∧ EnvR G m H1 e σ ∧ G.R m H1 d x ∧ bnd (S.E C b) (fun y => bnd (S.E C c) fun z => lift (rng3 d y z)) e h = some (r, h') ∧ ∀ m' H', Ext m H1 m' H' → G.H m' h' H' → match r with
            | .ok s => ∀ J, Drv G s m' H' J → R J H'
            | .ex c p => ∀ cv d, ExcAt G m' H' c p cv d → G.W cv d σ H') := by
          obtain ⟨m, e0, hh, r, h', a1, a2, a3, a4⟩ := h
          rcases bnd_some a3 with ⟨c, p, e1, rfl⟩ | ⟨d, h1, e1, e2⟩
          · exact ⟨m, e0, hh, _, h', a1, a2, e1, fun m' H' x y => a4 m' H' x y⟩
          · exact ⟨m, e0, hh, _, h1, a1, a2, e1, fun m' H' x y v g => ⟨m', e0, h1, d, r, h', y, a2.ext x, g, e2, fun m2 H2 x2 y2 => a4 m2 H2 (x.trans x2) y2⟩⟩
        refine t1.mono fun x H1 h1 => ?_
        have t2 : tG G G.R (S.E C b) σ H1 (fun y H2 => ∃ m e h d d2 r h', G.H m h H2 ∧ EnvR G m H2 e σ ∧ G.R m H2 d x ∧ G.R m H2 d2 y ∧ bnd (S.E C c) (fun z => lift (rng3 d d2 z)) e h = some (r, h') ∧ ∀ m' H', Ext m H2 m' H' → G.H m' h' H' → match r with
            | .ok s => ∀ J, Drv G s m' H' J → R J H'
            | .ex c p => ∀ cv d, ExcAt G m' H' c p cv d → G.W cv d σ H') := by
          obtain ⟨m, e0, hh, d, r, h', a1, a2, rd, a3, a4⟩ := h1
          rcases bnd_some a3 with ⟨c, p, e1, rfl⟩ | ⟨d2, h2, e1, e2⟩
          · exact ⟨m, e0, hh, _, h', a1, a2, e1, fun m' H' x y => a4 m' H' x y⟩
          · exact ⟨m, e0, hh, _, h2, a1, a2, e1, fun m' H' x' y' v g => ⟨m', e0, h2, d, d2, r, h', y', a2.ext x', rd.ext x', g, e2, fun m2 H2 x2 y2 => a4 m2 H2 (x'.trans x2) y2⟩⟩
        refine t2.mono fun y H2 h2 => ?_
        obtain ⟨m, e0, hh, d, d2, r, h', a1, a2, rd, rd2, a3, a4⟩ := h2
        rcases bnd_some a3 with ⟨c, p, e1, rfl⟩ | ⟨d3, h3, e1, e2⟩
        · exact ⟨m, e0, hh, _, h', a1, a2, e1, fun m' H' x y => a4 m' H' x y⟩
        · obtain ⟨sr, rfl, e3⟩ := lift_some e2
          refine ⟨m, e0, hh, _, h3, a1, a2, e1, fun m' H' x' y' v g => ?_⟩
          unfold rng3 at e3
          split at e3
          · split at e3
            · rename_i i j k hz
              cases e3
              simp only [Bool.and_eq_true] at hz
              obtain ⟨⟨⟨⟨⟨z1, z2⟩, z3⟩, z4⟩, z5⟩, z6⟩ := hz
              have z1 := leI_iff.mp z1
              have z2 := leI_iff.mp z2
              have z3 := leI_iff.mp z3
              have z4 := below_iff.mp z4
              have z5 := leI_iff.mp z5
              have z6 := below_iff.mp z6
              have ei : i = 0 := by omega
              subst ei
              have rg := rng3_ok z3 z4.2 z5 z6.2
              obtain ⟨K, W, cls, fld, Wx, hk⟩ := G
              exact ⟨0, j, k, _, by rw [show v = _ from g, show x = _ from rd, show y = _ from rd2], rg, a4 m' H' x' y' _ (drv_rngC k _)⟩
            · cases e3
          · cases e3
      · exact PI.of iA (fun σ H R h => by
          obtain ⟨m, e0, hh, r, h', a1, a2, a3, a4⟩ := h
          cases a3)
    · exact iA
  · exact iA
end
end Dd

set_option Elab.async false
set_option linter.all false
set_option maxRecDepth 100000
set_option maxHeartbeats 4000000
namespace Dd
open PySem PySem.Spec PyProof.Rows L2

/-! # 17. Targets -/
theorem wipe_get : ∀ (vs : List Nat) (σ : L2.St) (j : Nat), (wipe σ vs)[j]? = if j ∈ vs then (σ[j]?).map (fun _ => none) else σ[j]? := by
  intro vs
  induction vs with
  | nil => intro σ j; rfl
  | cons v vs ih =>
    intro σ j
    unfold wipe
    rw [List.getElem?_set]
    by_cases e : v = j
    · subst e
      rw [if_pos rfl, if_pos List.mem_cons_self, wipe_length]
      by_cases hl : v < σ.length
      · rw [if_pos hl, List.getElem?_eq_getElem hl]; rfl
      · rw [if_neg hl, List.getElem?_eq_none (Nat.le_of_not_lt hl)]; rfl
    · rw [if_neg e, ih]
      by_cases h2 : j ∈ vs
      · rw [if_pos h2, if_pos (List.mem_cons_of_mem _ h2)]
      · rw [if_neg h2, if_neg (fun z => (List.mem_cons.mp z).elim (fun z => e z.symm) h2)]
theorem wipe_set {σ : L2.St} {i : Nat} {y : Option V} {vs : List Nat} (hv : i ∈ vs) : wipe (σ.set i y) vs = wipe σ vs := by
  apply List.ext_getElem?
  intro j
  rw [wipe_get, wipe_get, List.getElem?_set]
  by_cases e : i = j
  · subst e
    rw [if_pos hv, if_pos hv, if_pos rfl]
    by_cases hl : i < σ.length
    · rw [if_pos hl, List.getElem?_eq_getElem hl]; rfl
    · rw [if_neg hl, List.getElem?_eq_none (Nat.le_of_not_lt hl)]
  · rw [if_neg e]
theorem wipe_wipe {σ : L2.St} {vs : List Nat} : wipe (wipe σ vs) vs = wipe σ vs := by
  apply List.ext_getElem?
  intro j
  rw [wipe_get, wipe_get]
  split
  · cases σ[j]? <;> rfl
  · rfl
/-- what a target does -/
def gG (G : Pc) (t : Tg) : TG := fun x σ H Q => ∃ m e h d e1, G.H m h H ∧ EnvR G m H e σ ∧ G.R m H d x ∧ t.put d h e = some e1 ∧
  ∀ σ', EnvR G m H e1 σ' → (∀ vs, (∀ i ∈ t.ixs, i ∈ vs) → wipe σ' vs = wipe σ vs) → Q σ' H
def gsG (G : Pc) (is : List Nat) : TGs := fun xs σ H Q => ∃ m e ds e1, EnvR G m H e σ ∧ G.Rs m H ds xs ∧ setAll is ds e = some e1 ∧
  ∀ σ', EnvR G m H e1 σ' → (∀ vs, (∀ i ∈ is, i ∈ vs) → wipe σ' vs = wipe σ vs) → Q σ' H
theorem PG.of {X : Cx} {e : Expr} {t t' : TG} (h : PG X e t) (w : ∀ v σ H Q, t' v σ H Q → t v σ H Q) : PG X e t' := ⟨fun pins s σ H v u Q I r q => h.run pins s σ H v u Q I r (w v σ H Q q)⟩
theorem PG.or {X : Cx} {e : Expr} {t t' u : TG} (h : PG X e t) (h' : PG X e t') (w : ∀ v σ H Q, u v σ H Q → t v σ H Q ∨ t' v σ H Q) : PG X e u :=
  ⟨fun pins s σ H v u Q I r q => (w v σ H Q q).elim (h.run pins s σ H v u Q I r) (h'.run pins s σ H v u Q I r)⟩
section
variable {X : Cx} {C : CE} {G : Pc} {F : Call} {S : Sm}
theorem nmIx_some {e : Expr} {i : Nat} (h : nmIx C e = some i) : ∃ x p, e = .Name x p ∧ locIx C x = some i ∧ isHk C i = false := by
  unfold nmIx at h
  split at h
  · split at h
    · split at h
      · cases h
      · rename_i hn
        cases h
        exact ⟨_, _, rfl, by assumption, by simpa using hn⟩
    · cases h
  · cases h
theorem pg_nm (f : Fit X C G F) {e : Expr} {i : Nat} (h : nmIx C e = some i) : PG X e (gName i) := by
  obtain ⟨x, p, rfl, hl, _⟩ := nmIx_some h
  obtain ⟨a1, a2, a3⟩ := f.loc hl
  exact pg_name (by rw [f.N]; exact f.nd) a1 a2 a3
theorem nmsIx_len : ∀ {es : List Expr} {is : List Nat}, nmsIx C es = some is → es.length = is.length
  | [], _, h => by cases h; rfl
  | e :: es, _, h => by
    unfold nmsIx at h
    split at h
    · rename_i i is h1 h2
      cases h
      rw [List.length_cons, List.length_cons, nmsIx_len h2]
    · cases h
theorem pgs_nm (f : Fit X C G F) : ∀ {es : List Expr} {is : List Nat}, nmsIx C es = some is → PGs X es (gsG G is) ∧ (assignEach es X.env).length = es.length ∧ (assignEach es X.env).findIdx? (·.1) = none
  | [], _, h => by
    cases h
    refine ⟨⟨fun pins s σ H vs us Q I r q => pgs_nil.run pins s σ H vs us Q I r ?_⟩, rfl, rfl⟩
    obtain ⟨m, e, ds, e1, a1, a2, a3, a4⟩ := q
    cases ds with
    | nil => cases a3; cases (show vs = [] from a2); exact ⟨rfl, a4 σ a1 fun _ _ => rfl⟩
    | cons => cases a3
  | e :: es, _, h => by
    unfold nmsIx at h
    split at h
    · rename_i i is h1 h2
      cases h
      obtain ⟨b1, b2, b3⟩ := pgs_nm f h2
      have h1' := h1
      obtain ⟨x, p, rfl, hl, hk⟩ := nmIx_some h1
      have b4 : assignEach (.Name x p :: es) X.env = (false, assign (.Name x p) X.env) :: assignEach es X.env := rfl
      refine ⟨⟨fun pins s σ H vs us Q I r q => (pgs_cons (pg_nm f h1') b1 rfl).run pins s σ H vs us Q I r ?_⟩, by rw [b4, List.length_cons, List.length_cons, b2], by rw [b4, List.findIdx?_cons, b3]; rfl⟩
      obtain ⟨m, e, ds, e1, a1, a2, a3, a4⟩ := q
      cases ds with
      | nil => cases a3
      | cons d ds =>
        obtain ⟨v, vr, rfl, rv, rr⟩ := a2
        refine ⟨v, vr, rfl, m, e.set i (some d), ds, e1, a1.set (f.noHk hk) rv, rr, a3, fun σ' y1 y2 => a4 σ' y1 fun ws hw => ?_⟩
        rw [y2 ws fun j hj => hw j (List.mem_cons_of_mem _ hj), wipe_set (hw i List.mem_cons_self)]
    · cases h
theorem pg_tg (f : Fit X C G F) {tg : Expr} {t : Tg} (h : tgOf C tg = some t) : PG X tg (gG G t) := by
  unfold tgOf at h
  split at h
  · obtain ⟨i, e1, e2⟩ := map_some h
    subst e2
    refine PG.of (pg_nm f e1) fun v σ H Q q => ?_
    obtain ⟨m, e, hh, d, e', a1, a2, a3, a4, a5⟩ := q
    obtain ⟨x, p, e0, hl, hk⟩ := nmIx_some e1
    cases a4
    exact a5 _ (a2.set (f.noHk hk) a3) fun vs hv => wipe_set (hv i (List.mem_singleton.mpr rfl))
  · split at h
    · rename_i hc
      obtain ⟨is, e1, e2⟩ := map_some h
      subst e2
      obtain ⟨b1, b2, b3⟩ := pgs_nm f e1
      have hc : X.calm = true := by rw [f.calm]; exact hc
      refine PG.or (pg_tup hc b1 b2 b3) (pg_lst hc b1 b2 b3) fun v σ H Q q => ?_
      obtain ⟨K, W, cls, fld, Wx, hk⟩ := G
      have hK : X.K = K := f.K
      subst hK
      obtain ⟨m, e, hh, d, e', a1, a2, a3, a4, a5⟩ := q
      have a4 : (match unpk d hh with | some ds => setAll is ds e | none => none) = some e' := a4
      have sal : ∀ {is : List Nat} {ds : List D} {e e' : DE}, setAll is ds e = some e' → ds.length = is.length := by
        intro is
        induction is with
        | nil => intro ds e e' h; cases ds with
          | nil => rfl
          | cons => cases h
        | cons i is ih => intro ds e e' h; cases ds with
          | nil => cases h
          | cons d ds => rw [List.length_cons, List.length_cons, ih h]
      cases d with
      | tup xs =>
        obtain ⟨a, vs, rfl, ha, ga⟩ := a3
        exact .inl ⟨a, vs, rfl, SqT.of ha, by rw [nmsIx_len e1, ga.length, sal a4], m, e, xs, e', a2, ga, a4, a5⟩
      | kt xs =>
        obtain ⟨a, vs, rfl, ha, ga⟩ := a3
        have ga := RelKs.relDs (w := W) (m := m) (H := H) xs vs ga
        exact .inl ⟨a, vs, rfl, ha.sq, by rw [nmsIx_len e1, ga.length, sal a4], m, e, xs, e', a2, ga, a4, a5⟩
      | ref i =>
        cases hu : lstAt hh i with
        | none => unfold unpk at a4; dsimp only at a4; rw [hu] at a4; cases a4
        | some xs =>
          unfold unpk at a4
          dsimp only at a4
          rw [hu] at a4
          obtain ⟨a, vs, rfl, ma, ha, ga⟩ := ref_lst a1 a3 hu
          exact .inr ⟨a, vs, rfl, SqL.of ha, by rw [nmsIx_len e1, ga.length, sal a4], m, e, xs, e', a2, ga, a4, a5⟩
      | _ => cases a4
    · cases h
  · cases h
end
/-! # 18. Comprehensions -/
/-- in a block nothing goes out -/
def Pc.blk (G : Pc) : Pc := { G with W := fun _ _ _ _ => False }
theorem EnvR.toBlk {G : Pc} {m : List Addr} {H : Hp} {e : DE} {σ : L2.St} (h : EnvR G m H e σ) : EnvR G.blk m H e σ := ⟨h.len, h.slot⟩
section
variable {X : Cx} {C : CE} {G : Pc} {F : Call} {S : Sm}
theorem Fit.blk (f : Fit X C G F) (hc : C.calm = true) (scope : Scope) (s : Shared) (H : Hp) (c : Addr) (cl : List (Str × Addr)) (fp : List Addr) :
    Fit (X.blk s H scope (compEnvC scope cl c X.env) fp) (C.inBlk scope) G.blk F where
  N := f.N
  nd := f.nd
  sc := by show relS scope X.env.scope = relS scope C.sc; rw [f.sc]
  calm := f.calm
  fn := fun x h => by
    have h : (false || decide (scope.names.lookup x = some .cell)) = true := h
    rw [Bool.false_or] at h
    show (scope.names.lookup x == some .cell) = true
    rw [of_decide_eq_true h]; rfl
  K := f.K
  w := f.w
  tk := takes0
  pass := PassesOwn.never
  un := f.un
  gd := f.gd
  blt := f.blt
  con := f.con
  fns := f.fns
  own := fun h => nomatch (show false = true from h)
  exc := f.exc
  excF := f.excF
  room := f.room
  hkc := f.hkc
  hk0 := f.hk0
  hk1 := fun i c h => nomatch (show none = some (i, c) from (f.hkc hc).symm.trans h)
end
end Dd

set_option Elab.async false
set_option linter.all false
set_option maxRecDepth 100000
set_option maxHeartbeats 4000000
namespace Dd
open PySem PySem.Spec PyProof.Rows L2

section
variable {G : Pc} {σ : L2.St} {H : Hp} {Q : VK}
/-- the walk of a list comprehension, by the plain loop -/
theorem lc_main {it : M Src} {t : Tg} {c : M Bool} {mm : M D} {vs : List Nat} (ht : ∀ i ∈ t.ixs, i ∈ vs) (hyp : tG G G.R (lcM vs it t c mm) σ H Q) :
    tLc (iG G it) (gG G.blk t) (tG G.blk relB c) (tG G.blk G.blk.R mm) vs σ H Q := by
  obtain ⟨m, e, h, r, h', a1, a2, a3, a4⟩ := hyp
  rcases bnd_some a3 with ⟨k, p, e1, rfl⟩ | ⟨s, h1, e1, e2⟩
  · exact ⟨m, e, h, _, h', a1, a2, e1, a4⟩
  refine ⟨m, e, h, _, h1, a1, a2, e1, fun m1 H1 x1 y1 J dr D hD => ?_⟩
  obtain ⟨hz, e3, e4⟩ := map_some e2
  cases e4
  generalize hhz : h' = h'0 at e3 a4
  obtain ⟨b1, b2, b3⟩ := new_lst (K := G.K) (w := G.w) (m := m1) (h := h1) (H := H1) (p := D) (ds := []) (vs := []) y1 hD RelDs.nil
  have e0 := ((a2.ext x1).ext b2).wipe vs
  obtain ⟨p, q1, q2⟩ := b3
  cases q2
  refine ⟨fun i n H' => n = s.len - i ∧ ∃ m' h', Ext (m1 ++ [D]) (upd H1 D (.lst [])) m' H' ∧ G.H m' h' H' ∧ i ≤ s.len ∧ lcLoop s t c mm h1.length (wipeE e vs) (s.len - i) i h' = some h'0, ⟨s.len, rfl, _, _, Ext.refl _ _, b1, Nat.zero_le _, e3⟩, ?_⟩
  rintro i n H' ⟨rfl, m', h', c1, c2, c3, c4⟩
  obtain ⟨d1, d2⟩ := dr m' h' H' (b2.trans c1) c2
  by_cases hi : i = s.len
  · subst hi
    rw [Nat.sub_self] at c4
    have c4 : (if s.done h' then some h' else none) = some h'0 := c4
    split at c4
    · rename_i hd
      cases c4
      exact .inl ⟨d2 hd, a4 m' H' (x1.trans (b2.trans c1)) c2 _ ⟨D, c1.ix q1, rfl⟩⟩
    · cases c4
  · obtain ⟨k, hk⟩ : ∃ k, s.len - i = k + 1 := ⟨s.len - i - 1, by omega⟩
    rw [hk] at c4
    dsimp only [lcLoop] at c4
    split at c4
    · cases c4
    rename_i d hd
    obtain ⟨j1, j2⟩ := d1 i d hd
    refine .inr ⟨j1, fun H' => ∃ m' h', Ext (m1 ++ [D]) (upd H1 D (.lst [])) m' H' ∧ G.H m' h' H' ∧ lcLoop s t c mm h1.length (wipeE e vs) k (i + 1) h' = some h'0,
      fun H'' ⟨m', h', l1, l2, l3⟩ => ⟨k, by omega, by omega, m', h', l1, l2, by omega, by rw [show s.len - (i + 1) = k by omega]; exact l3⟩, fun x H'' hy => ?_⟩
    obtain ⟨z1, z2, z3⟩ := j2 x H'' hy
    split at c4
    · cases c4
    rename_i e1' he1
    refine ⟨m', wipeE e vs, h', d, e1', z2, (e0.ext (c1.trans z1)).toBlk, z3, he1, fun σ2 s1 s2 => ⟨(s2 vs ht).trans wipe_wipe, ?_⟩⟩
    split at c4
    · rename_i h2 hc2
      refine ⟨m', e1', h', _, h2, z2, s1, hc2, fun m3 H3 x3 y3 b hb => ?_⟩
      cases (show true = b from hb)
      rw [if_pos rfl]
      split at c4
      · rename_i xd h3 hm2
        refine ⟨m3, e1', h2, _, h3, y3, s1.ext x3, hm2, fun m4 H4 x4 y4 y hy => ?_⟩
        split at c4
        · rename_i acc hacc
          split at c4
          · rename_i hlt
            obtain ⟨p, us, w0, q2, q3, q4⟩ := ref_lst y4 (x := .ref D) ⟨D, (c1.trans (z1.trans (x3.trans x4))).ix q1, rfl⟩ hacc
            cases w0
            obtain ⟨w1, w2⟩ := y4.write (ob := .lst (acc ++ [xd])) (o := .lst (us ++ [y])) q2 ⟨_, rfl, q4.append (RelDs.one hy)⟩
            exact ⟨us, q3, by rw [q4.length, ← Z_eq]; exact hlt, m4, _, c1.trans (z1.trans (x3.trans (x4.trans w2))), w1, c4⟩
          · cases c4
        · cases c4
      · cases c4
    · rename_i h2 hc2
      refine ⟨m', e1', h', _, h2, z2, s1, hc2, fun m3 H3 x3 y3 b hb => ?_⟩
      cases (show false = b from hb)
      rw [if_neg (fun z => nomatch z)]
      exact ⟨m3, h2, c1.trans (z1.trans x3), y3, c4⟩
    · cases c4
end
section
variable {X : Cx} {C : CE} {G : Pc} {F : Call} {S : Sm}
theorem folded {it : Expr} (h : isSetE it = false) : ∀ x, foldedSetIterable it X.env x = pure x := by
  intro x
  cases it <;> first | rfl | cases h
theorem blk_ok (f : Fit X C G F) {sc : Scope} {own : List (Str × Nat)} (h : blkC C.N C.sc sc own = true) : BlkOk X.N X.env.scope sc own := by
  rw [f.N, f.sc]
  exact blkOk_by h
theorem ixs_in {t : Tg} {vs : List Nat} (h : (t.ixs.all fun i => decide (i ∈ vs)) = true) : ∀ i ∈ t.ixs, i ∈ vs := fun i hi => of_decide_eq_true (List.all_eq_true.mp h i hi)
/-- what a comprehension asks -/
theorem compT_some {C : CE} {tg it : Expr} {sc : Scope} {t : Tg} (h : compT C tg it sc = some t) : C.calm = true ∧ blkC C.N C.sc sc (ownOf C.N sc) = true ∧ isSetE it = false ∧ tgOf (C.inBlk sc) tg = some t ∧ ∀ i ∈ t.ixs, i ∈ (ownOf C.N sc).map (·.2) := by
  unfold compT at h
  split at h
  · rename_i hc
    simp only [Bool.and_eq_true, Bool.not_eq_true'] at hc
    split at h
    · rename_i t' ht
      split at h
      · rename_i hi
        cases h
        exact ⟨hc.1.1, hc.1.2, hc.2, ht, ixs_in hi⟩
      · cases h
    · cases h
  · cases h
theorem yes_ret {σ : L2.St} {H : Hp} {Q : Bool → Hp → Prop} (h : tG G relB (ret true) σ H Q) : tYes σ H Q := by
  obtain ⟨m, e, hh, a1, a2, a3⟩ := tG_ret h
  exact a3 true rfl
theorem PTs.of {es : List Expr} {t t' : TT} (h : PTs X es t) (w : ∀ σ H Q, t' σ H Q → t σ H Q) : PTs X es t' := ⟨fun pins s σ H Q I q => h.run pins s σ H Q I (w σ H Q q)⟩
theorem comp_main {elt tg it : Expr} {ifs : List Expr} {sc : Scope} (hE : OkE S F) (hT : OkT S F) (hI : OkI S F) (f : Fit X C G F) {σ : L2.St} {H : Hp} {Q : VK} (h : tG G G.R (compE S C elt tg it ifs sc) σ H Q) :
    ∃ t c, compT C tg it sc = some t ∧ (∀ (s : Shared) (H : Hp) (a : Addr) (cl : List (Str × Addr)) (fp : List Addr), PTs (X.blk s H sc (compEnvC sc cl a X.env) fp) ifs (tG G.blk relB c)) ∧
      tLc (iG G (S.I C tg it)) (gG G.blk t) (tG G.blk relB c) (tG G.blk G.blk.R (S.E (C.inBlk sc) elt)) ((ownOf C.N sc).map (·.2)) σ H Q := by
  unfold compE at h
  split at h
  · rename_i t ht
    obtain ⟨c1, c2, c3, c4, c5⟩ := compT_some ht
    split at h
    · exact ⟨t, _, ht, fun s H a cl fp => PTs.of pts_nil fun σ H Q q => yes_ret q, lc_main c5 h⟩
    · exact ⟨t, _, ht, fun s H a cl fp => pts_one (hT _ _ _ (f.blk c1 sc s H a cl fp) _), lc_main c5 h⟩
    · exact (tG_stuck h).elim
  · exact (tG_stuck h).elim
theorem e_lc {elt tg it : Expr} {ifs : List Expr} {sc : Scope} {pos : Pos} (hE : OkE S F) (hT : OkT S F) (hI : OkI S F) (f : Fit X C G F) :
    PE X (.ListComp elt [⟨tg, it, ifs, 0⟩] sc pos) (tG G G.R (compE S C elt tg it ifs sc)) := by
  refine ⟨fun pins s σ H Q I q => ?_⟩
  obtain ⟨t, c, ht, pt, q⟩ := comp_main hE hT hI f q
  obtain ⟨c1, c2, c3, c4, c5⟩ := compT_some ht
  exact (pe_lc (by rw [f.calm]; exact c1) (by rw [f.N]; exact f.nd) (hI X C G f tg it) (blk_ok f c2) (fun s H a cl fp => pg_tg (f.blk c1 sc s H a cl fp) c4) pt
    (fun s H a cl fp => hE _ _ _ (f.blk c1 sc s H a cl fp) elt) (folded c3)).run pins s σ H Q I q
theorem s_lc {elt tg it : Expr} {ifs : List Expr} {sc : Scope} {pos spos py : Pos} {i : Nat} {y : Str} (hE : OkE S F) (hT : OkT S F) (hI : OkI S F) (f : Fit X C G F) (hy : X.N[i]? = some y) (hyl : X.env.scope.names.lookup y = some .local)
    (hsw : swapsWith (.ListComp elt [⟨tg, it, ifs, 0⟩] sc pos) (some (.Name y py)) spos.line X.env = pure true) :
    PS X (.Assign [.Name y py] (.ListComp elt [⟨tg, it, ifs, 0⟩] sc pos) spos) (tAsg (tG G G.R (compE S C elt tg it ifs sc)) (gName i)) := by
  refine ⟨fun pins s σ H D I q => ?_⟩
  obtain ⟨t, c, ht, pt, q⟩ := comp_main hE hT hI f q
  obtain ⟨c1, c2, c3, c4, c5⟩ := compT_some ht
  exact (ps_setLc (by rw [f.calm]; exact c1) (by rw [f.N]; exact f.nd) hy hyl hsw (hI X C G f tg it) (blk_ok f c2) (fun s H a cl fp => pg_tg (f.blk c1 sc s H a cl fp) c4) pt
    (fun s H a cl fp => hE _ _ _ (f.blk c1 sc s H a cl fp) elt) (folded c3)).run pins s σ H D I q
end
end Dd

set_option Elab.async false
set_option linter.all false
set_option maxRecDepth 100000
set_option maxHeartbeats 4000000
namespace Dd
open PySem PySem.Spec PyProof.Rows L2

/-! # 19. {k: v for ..}, the keys tuples -/
/-- one more pair -/
theorem put_tup {X : Cx} {pins : List (Addr × Obj)} {σ : L2.St} {H : Hp} {s : Shared} {E : Value → Shared → Prop} {p b : Addr} {kvs : List (List Key × V)} {k : List Key} {v : V} {r : Value} {Q : Unit → Shared → Prop}
    (hu : X.A.units + 1 < cLine) (I : Inv X pins σ H s) (hp : H p = some (.dT kvs)) (hb : H b = some (.tup (k.map kV))) (hz : kvs.length < sizeLine) (rv : RelV v r) (q : ∀ t, Inv X pins σ (upd H p (.dT (putK kvs k v))) t → Q () t) :
    wpAny (model X.prog X.w) X.A (dictSet p (.ref b) r) Q E s := by
  obtain ⟨z, nd, xs, rel, dd⟩ := dt_of I.hok hp
  refine wpAny_dictSet_heap (hsz := by rw [← Paired.length rel]; exact z) (show X.A.units < cLine from Nat.lt_of_succ_lt hu) (key_of I.hok hb) dd fun h' ⟨o, es, ep, e1, e2, e3, e4, _, e5⟩ sb => q _ ?_
  have z' : (putK kvs k v).length ≤ sizeLine := Nat.le_trans (length_putK kvs k v) hz
  exact d_write I (by rw [hp]; exact True.intro) sb ⟨o, e1⟩
    ⟨z', nd, _, (rel.put k hb rv).keeps fun c ys ec => (upd_ne (ne_of ec hp (fun z => nomatch z))).trans ec, o, es, ep, e1, e2, e3, e4, e5⟩
section
variable {X : Cx}
def tDcT (wi : TI) (g : TG) (tk tv : TE) (vs : List Nat) : TE := fun σ H Q => wi σ H fun J H1 => ∀ p, H1 p = none → ∃ W : Nat → Nat → Hp → Prop, (∃ n, W 0 n (upd H1 p (.dT []))) ∧ ∀ i n H2, W i n H2 →
  (J.stop i H2 ∧ Q (.ref p) H2) ∨ (J.go i H2 ∧ ∃ Nx : Hp → Prop, (∀ H3, Nx H3 → ∃ n', n' < n ∧ W (i + 1) n' H3) ∧ ∀ x H3, J.yld i H2 x H3 → g x (wipe σ vs) H3 fun σ4 H4 => wipe σ4 vs = wipe σ vs ∧
    tk σ4 H4 fun y H5 => tv σ4 H5 fun z H6 => ∃ kvs k b, y = .ref b ∧ H6 b = some (.tup (k.map kV)) ∧ H6 p = some (.dT kvs) ∧ kvs.length < sizeLine ∧ Nx (upd H6 p (.dT (putK kvs k z))))
theorem dcT_core {pins : List (Addr × Obj)} {s : Shared} {σ : L2.St} {H : Hp} {Q : VK} {kx vx tg iter : Expr} {scope : Scope} {own : List (Str × Nat)} {pos pos' : Pos} {wi : TI} {g : TG} {tk tv : TE} {use : Option (Value → Sem Unit)} {Qf : Value → Shared → Prop}
    (hu : X.A.units + 1 < cLine) (hc : X.calm = true) (hN : X.N.Nodup) (I : Inv X pins σ H s) (hi : PI X tg iter wi) (ok : BlkOk X.N X.env.scope scope own)
    (hg : ∀ (s : Shared) (H : Hp) (a : Addr) (cl : List (Str × Addr)) (fp : List Addr), PG (X.blk s H scope (compEnvC scope cl a X.env) fp) tg g)
    (hk : ∀ (s : Shared) (H : Hp) (a : Addr) (cl : List (Str × Addr)) (fp : List Addr), PE (X.blk s H scope (compEnvC scope cl a X.env) fp) kx tk)
    (hv : ∀ (s : Shared) (H : Hp) (a : Addr) (cl : List (Str × Addr)) (fp : List Addr), PE (X.blk s H scope (compEnvC scope cl a X.env) fp) vx tv) (hs : ∀ x, foldedSetIterable iter X.env x = pure x)
    (h : tDcT wi g tk tv (own.map (·.2)) σ H Q)
    (fin : ∀ p c s' m H', Inv X pins σ H' s' → Q (.ref p) H' → s'.heap.Ns c m → FpOk X pins H' c → compPost (model X.prog X.w) X.A X.xe use Qf (.ref p) c (.ok .next) s') :
    wpAny (model X.prog X.w) X.A (comprehension (.DictComp kx vx [⟨tg, iter, [], 0⟩] scope pos) scope X.env pos' newDict false (eval iter X.env) use) Qf X.xe s := by
  have clo : ∀ y ∈ scope.names, y.2 = .free → ∃ c, X.env.cells.lookup y.1 = some c := fun y hy e => (ok.free y hy e).elim (fun k => I.ok.has _ (.inl k)) (fun k => I.ok.has _ (.inr k))
  refine wpAny_comprehension_free (use := use) rfl hs (closure_ok clo) ok.kind (fun y hy e => by rw [ok.uniq y hy, e]) (thn (hi.run pins s σ H _ I h) fun xv s1 hx => thn hx fun itv s2 h2 => ?_)
  obtain ⟨it, fp, tn, J, H2, rfl, I2, T, st2, f2, q⟩ := h2
  refine wpAny_newObj_type (newEnv_comp ?_)
  obtain ⟨p, hp⟩ : ∃ p, s2.heap.objs.size = p := ⟨_, rfl⟩
  obtain ⟨W, ⟨n0, w0⟩, turn⟩ := q p (I2.hok.fresh (Nat.le_of_eq hp))
  -- the dict
  obtain ⟨s3, e3⟩ : ∃ s3 : Shared, s3 = { s2 with heap := s2.heap.push { cls := .type "dict", data := .dict #[] } } := ⟨_, rfl⟩
  obtain ⟨H3, eH⟩ : ∃ H3, H3 = upd H2 p (.dT []) := ⟨_, rfl⟩
  have kp2 : ∀ b o, s2.heap.get? b = some o → s3.heap.get? b = some o := fun b o e => by rw [e3]; exact Heap.get?_push_of_some _ e
  have I3 : Inv X pins σ H3 s3 := by
    rw [e3, eH]
    refine I2.laid (t' := s2.toks) (fun b o e => Heap.get?_push_of_some _ e) (Nat.le_of_eq hp) ?_
    rw [← hp]
    exact dt_empty s2.heap I2.big
  have f3 : ∀ b ∈ fp, FpOk X pins H3 b ∧ b < s3.heap.objs.size := fun b hb => by
    obtain ⟨o, e, _⟩ := T.obj _ _ st2 b hb
    refine ⟨⟨?_, (f2 b hb).2⟩, Heap.lt_size (kp2 b o e)⟩
    rw [eH, upd_ne (by rw [← hp]; exact Nat.ne_of_lt (Heap.lt_size e))]
    exact (f2 b hb).1
  have st3 : tn 0 s3.heap := T.keep _ _ _ st2 fun b _ o e => kp2 b o e
  have I4 := block_start I3 ok hN f3
  obtain ⟨ce, ece⟩ : ∃ ce, ce = compEnvC scope (cellsFrom (s3.heap.objs.size + 1) scope.names (cloFrom X.env.cells scope.names [])) s3.heap.objs.size X.env := ⟨_, rfl⟩
  have pg := hg s3 H3 s3.heap.objs.size (cellsFrom (s3.heap.objs.size + 1) scope.names (cloFrom X.env.cells scope.names [])) fp
  have pk := hk s3 H3 s3.heap.objs.size (cellsFrom (s3.heap.objs.size + 1) scope.names (cloFrom X.env.cells scope.names [])) fp
  have pv := hv s3 H3 s3.heap.objs.size (cellsFrom (s3.heap.objs.size + 1) scope.names (cloFrom X.env.cells scope.names [])) fp
  obtain ⟨s4, e4⟩ : ∃ s4 : Shared, s4 = { s3 with heap := pushCells (s3.heap.push { cls := .type "dict", data := .dict #[] }) scope.names } := ⟨_, rfl⟩
  have st4 : tn 0 s4.heap := T.keep _ _ _ st3 fun b _ o e => by rw [e4]; exact pushCells_keeps _ _ _ _ (Heap.get?_push_of_some _ e)
  rw [← ece] at I4 pg pk pv
  rw [← e4] at I4
  have cl : ce.locals = s3.heap.objs.size := by rw [ece]; rfl
  have goal : codeAny (model X.prog X.w) X.A (.compStart (.DictComp kx vx [⟨tg, iter, [], 0⟩] scope pos) 0 (.ref it) (.ref p) ce) (compPost (model X.prog X.w) X.A X.xe use Qf (.ref p) s3.heap.objs.size) s4 := by
    have stat : ∀ {σ' : L2.St} {H' : Hp} {s' : Shared}, Inv (X.blk s3 H3 scope ce fp) [] σ' H' s' → (∀ b ∈ fp, H' b = none) → ∀ b ∈ fp, FpOk (X.blk s3 H3 scope ce fp) [] H' b := fun {σ' H' s'} J hn b hb =>
      ⟨hn b hb, (J.ok.exf b hb).1, J.ok.exfs b hb, .inl hb, fun x c e => (J.ok.exf b hb).2 x c e, fun p hp => absurd (show p ∈ ([] : List (Addr × Obj)) ++ [] from hp) (by simp)⟩
    have loop : codeAny (model X.prog X.w) X.A (.compLoop (.DictComp kx vx [⟨tg, iter, [], 0⟩] scope pos) 0 (.ref it) (.ref p) ce) (compPost (model X.prog X.w) X.A X.xe use Qf (.ref p) s3.heap.objs.size) s4 := by
      refine compLoop_anyD (fun n s' => ∃ i H', Inv (X.blk s3 H3 scope ce fp) [] (wipe σ (own.map (·.2))) H' s' ∧ tn i s'.heap ∧ (∀ b ∈ fp, H' b = none) ∧ W i n H') ?_ n0 ⟨0, H3, I4, st4, fun b hb => (f3 b hb).1.1, by rw [eH]; exact w0⟩
      rintro n s5 ⟨i, H5, I5, st5, n5, w5⟩
      rcases turn i n H5 w5 with ⟨stop, qq⟩ | ⟨go, Nx, hNx, step⟩
      · refine thnF (T.done (X.blk s3 H3 scope ce fp) rfl rfl rfl hc i [] s5 _ H5 (fun _ _ => False) I5 (stat I5 n5) st5 stop) fun r s6 ⟨hr, I6⟩ => ?_
        subst hr
        have I7 : Inv X pins σ H5 s6 := I3.call' (ch := fp) I6.os I6.base I6.hok I6.bare fun b hb => ⟨(f3 b hb).1.2.2.2.1, (f3 b hb).1.2.1, (f3 b hb).1.2.2.2.2.1, (f3 b hb).1.2.2.2.2.2⟩
        have z : H5 ce.locals = none := I6.free
        obtain ⟨mm, hn, _⟩ := I6.loc
        have hn : s6.heap.Ns ce.locals mm := hn
        rw [cl] at hn z
        exact fin p _ s6 mm H5 I7 qq hn (I3.fpOk (Nat.le_refl _) z)
      · refine thnF (T.item (X.blk s3 H3 scope ce fp) rfl rfl rfl hc i [] s5 _ H5 (fun _ _ => False) I5 (stat I5 n5) st5 go) fun r s6 ⟨u, hr, h6⟩ => ?_
        subst hr
        refine thnF h6 fun _ s7 ⟨x, H7, I7, r7, y7, st7, n7⟩ => ?_
        refine thnF (pg.run _ s7 _ H7 x u _ (I7.pinned (stat I7 n7) (T.obj _ _ st7)) r7 (step x H7 y7)) fun _ s8 ⟨σ8, H8, I8, hw8, q8⟩ => ?_
        refine thnF ((pts_nil (X := X.blk s3 H3 scope ce fp)).run _ s8 σ8 H8 (fun b H' => b = true ∧ H' = H8) I8 ⟨rfl, rfl⟩) fun b s9 ⟨H9, I9, hb, hH⟩ => ?_
        subst hb hH
        rw [if_pos rfl]
        refine thnF (pk.run _ s9 σ8 H9 _ I9 q8) fun ku s10 ⟨yk, H10, I10, r10, q10⟩ => ?_
        refine thnF (pv.run _ s10 σ8 H10 _ I10 q10) fun vu s11 ⟨yv, H11, I11, r11, kvs, k, b, ek, hb11, hp11, hz11, nx⟩ => ?_
        subst ek
        cases (show ku = Value.ref b from r10)
        refine put_tup (X := X.blk s3 H3 scope ce fp) hu I11 hp11 hb11 hz11 r11 fun s12 I12 => ?_
        obtain ⟨n', hn', w'⟩ := hNx _ nx
        have hold : ∀ b ∈ fp, ∀ o, s7.heap.get? b = some o → s12.heap.get? b = some o ∧ (upd H11 p (.dT (putK kvs k yv))) b = none := fun b hb o e =>
          let z := I12.pin (b, o) (List.mem_append_right _ (List.mem_append_right _ (mem_pinsAt hb e)))
          ⟨z.1, z.2.1⟩
        refine ⟨n', hn', i + 1, _, (I12.unpinned (pins := [])).weak (by rw [← hw8, wipe_length]) (fun j v e => ?_), T.keep _ _ _ st7 fun b hb o e => (hold b hb o e).1, fun b hb => ?_, w'⟩
        · rw [← hw8] at e
          exact (wipe_some e).1
        · obtain ⟨o, e, _⟩ := T.obj _ _ st7 b hb
          exact (hold b hb o e).2
    exact codeAny_compStart_dict loop (T.self X.A 0 _ _ _ st4 loop)
  rw [ece, e4] at goal
  rw [hp, ← e3]
  exact goal
theorem pe_dcT {kx vx tg iter : Expr} {scope : Scope} {own : List (Str × Nat)} {pos : Pos} {wi : TI} {g : TG} {tk tv : TE} (hu : X.A.units + 1 < cLine) (hc : X.calm = true) (hN : X.N.Nodup) (hi : PI X tg iter wi) (ok : BlkOk X.N X.env.scope scope own)
    (hg : ∀ (s : Shared) (H : Hp) (a : Addr) (cl : List (Str × Addr)) (fp : List Addr), PG (X.blk s H scope (compEnvC scope cl a X.env) fp) tg g)
    (hk : ∀ (s : Shared) (H : Hp) (a : Addr) (cl : List (Str × Addr)) (fp : List Addr), PE (X.blk s H scope (compEnvC scope cl a X.env) fp) kx tk)
    (hv : ∀ (s : Shared) (H : Hp) (a : Addr) (cl : List (Str × Addr)) (fp : List Addr), PE (X.blk s H scope (compEnvC scope cl a X.env) fp) vx tv) (hs : ∀ x, foldedSetIterable iter X.env x = pure x) :
    PE X (.DictComp kx vx [⟨tg, iter, [], 0⟩] scope pos) (tDcT wi g tk tv (own.map (·.2))) := by
  refine ⟨fun pins s σ H Q I h => ?_⟩
  rw [arm_eval_DictComp]
  refine dcT_core hu hc hN I hi ok hg hk hv hs h fun p c s' m H' I' q hn ⟨f0, f1, f2, f3, f4, f5⟩ => ⟨m, hn, fun h'' sb => ?_⟩
  exact ⟨.ref p, H', I'.turned (t' := s'.toks) (fun b o hb e => (sb.2 b hb).trans e) f0 f1 f3 f4 f5, rfl, q⟩
theorem ps_setDcT {i : Nat} {y : Str} {py spos : Pos} {kx vx tg iter : Expr} {scope : Scope} {own : List (Str × Nat)} {pos : Pos} {wi : TI} {g : TG} {tk tv : TE} (hu : X.A.units + 1 < cLine) (hc : X.calm = true) (hN : X.N.Nodup)
    (hy : X.N[i]? = some y) (hyl : X.env.scope.names.lookup y = some .local) (hsw : swapsWith (.DictComp kx vx [⟨tg, iter, [], 0⟩] scope pos) (some (.Name y py)) spos.line X.env = pure true) (hi : PI X tg iter wi) (ok : BlkOk X.N X.env.scope scope own)
    (hg : ∀ (s : Shared) (H : Hp) (a : Addr) (cl : List (Str × Addr)) (fp : List Addr), PG (X.blk s H scope (compEnvC scope cl a X.env) fp) tg g)
    (hk : ∀ (s : Shared) (H : Hp) (a : Addr) (cl : List (Str × Addr)) (fp : List Addr), PE (X.blk s H scope (compEnvC scope cl a X.env) fp) kx tk)
    (hv : ∀ (s : Shared) (H : Hp) (a : Addr) (cl : List (Str × Addr)) (fp : List Addr), PE (X.blk s H scope (compEnvC scope cl a X.env) fp) vx tv) (hs : ∀ x, foldedSetIterable iter X.env x = pure x) :
    PS X (.Assign [.Name y py] (.DictComp kx vx [⟨tg, iter, [], 0⟩] scope pos) spos) (tAsg (tDcT wi g tk tv (own.map (·.2))) (gName i)) := by
  refine ⟨fun pins s σ H D I h => ?_⟩
  rw [exec_Assign_Name_used _ _ _ _ hsw]
  refine wpAny_bind (wpAny_standAt (wpAny_bind ?_))
  show wpAny _ X.A (do let _ ← comprehension (.DictComp kx vx [⟨tg, iter, [], 0⟩] scope pos) scope X.env (firstIterPos [⟨tg, iter, [], 0⟩] pos) newDict false (eval iter X.env) (some (assign (.Name y py) X.env))) _ _ s
  have h : tDcT wi g tk tv (own.map (·.2)) σ H (fun x H1 => gName i x σ H1 D.nx) := h
  refine wpAny_bind (thn (dcT_core (Qf := fun _ s' => SP X pins D .next s') hu hc hN I hi ok hg hk hv hs h fun p c s' m H' I' q hn ⟨f0, f1, f2, f3, f4, f5⟩ => ?_) fun _ s' hq => wpAny_pure (wpAny_pure hq))
  refine wpAny_assign_Name (store_ok2 (v := V.ref p) I' hN hy (.inl hyl) rfl (fun s2 I2 ⟨a, sb, ha⟩ => ?_) (.inr hyl))
  have nc : c ≠ a := ha.elim (fun z => by rw [z]; exact f1) (fun z e => f4 y a z e.symm)
  exact ⟨m, hn.sameBut sb nc, fun h3 sb3 => ⟨_, H', I2.turned (t' := s2.toks) (fun b o hb e => (sb3.2 b hb).trans e) f0 f1 f3 f4 f5, q⟩⟩
end
end Dd

set_option Elab.async false
set_option linter.all false
set_option maxRecDepth 100000
set_option maxHeartbeats 4000000
namespace Dd
open PySem PySem.Spec PyProof.Rows L2

section
variable {κ : Type} [DecidableEq κ] {K : PySem.W.Frag} {w : World} {m : List Addr} {H : Hp}
theorem KV_any2 (k : κ) : ∀ {kvs : List (κ × D)} {vs : List (κ × V)}, RelKV K w m H kvs vs → (vs.any fun p => decide (p.1 = k)) = (kvs.any fun p => decide (p.1 = k))
  | [], vs, g => by cases (show vs = [] from g); rfl
  | p :: ps, vs, g => by
    obtain ⟨v, r, rfl, g1, g2⟩ := g
    rw [List.any_cons, List.any_cons, KV_any2 k g2]
theorem KV_repl (k : κ) {d : D} {v : V} (gd : RelD K w m H d v) : ∀ {kvs : List (κ × D)} {vs : List (κ × V)}, RelKV K w m H kvs vs →
    RelKV K w m H (kvs.map fun p => if p.1 = k then (p.1, d) else p) (vs.map fun p => if p.1 = k then (p.1, v) else p)
  | [], vs, g => by cases (show vs = [] from g); rfl
  | p :: ps, vs, g => by
    obtain ⟨u, r, rfl, g1, g2⟩ := g
    rw [List.map_cons, List.map_cons]
    by_cases e : p.1 = k
    · rw [if_pos e, if_pos e]
      exact ⟨v, _, rfl, gd, KV_repl k gd g2⟩
    · rw [if_neg e, if_neg e]
      exact ⟨u, _, rfl, g1, KV_repl k gd g2⟩
theorem KV_snoc (k : κ) {d : D} {v : V} (gd : RelD K w m H d v) : ∀ {kvs : List (κ × D)} {vs : List (κ × V)}, RelKV K w m H kvs vs → RelKV K w m H (kvs ++ [(k, d)]) (vs ++ [(k, v)])
  | [], vs, g => by cases (show vs = [] from g); exact ⟨v, [], rfl, gd, rfl⟩
  | p :: ps, vs, g => by
    obtain ⟨u, r, rfl, g1, g2⟩ := g
    exact ⟨u, _, rfl, g1, KV_snoc k gd g2⟩
theorem KV_put {kvs : List (κ × D)} {vs : List (κ × V)} (k : κ) {d : D} {v : V} (g : RelKV K w m H kvs vs) (gd : RelD K w m H d v) : RelKV K w m H (putD kvs k d) (putK vs k v) := by
  unfold putD putK
  rw [KV_any2 k g]
  split
  · exact KV_repl k gd g
  · exact KV_snoc k gd g
theorem KV_len : ∀ {kvs : List (κ × D)} {vs : List (κ × V)}, RelKV K w m H kvs vs → vs.length = kvs.length := fun g => (KV_any g).2
end
theorem ref_dt {K : PySem.W.Frag} {w : World} {m : List Addr} {h : DH} {H : Hp} (r : RH K w m h H) {i : Nat} {a : Addr} (ha : m[i]? = some a) {kvs : List (List Key × D)} (e : h[i]? = some (.dt kvs)) : ∃ vs, H a = some (.dT vs) ∧ RelKV K w m H kvs vs := by
  obtain ⟨o, e1, vs, rfl, g⟩ := r.get ha e
  exact ⟨vs, e1, g⟩
theorem ref_dk {K : PySem.W.Frag} {w : World} {m : List Addr} {h : DH} {H : Hp} (r : RH K w m h H) {i : Nat} {a : Addr} (ha : m[i]? = some a) {kvs : List (Key × D)} (e : h[i]? = some (.dk kvs)) : ∃ vs, H a = some (.dK vs) ∧ RelKV K w m H kvs vs := by
  obtain ⟨o, e1, vs, rfl, g⟩ := r.get ha e
  exact ⟨vs, e1, g⟩
section
variable {G : Pc} {σ : L2.St} {H : Hp} {Q : VK}
/-- the walk of a dict comprehension -/
theorem dc_main {it : M Src} {t : Tg} {mk mv : M D} {vs : List Nat} (ht : ∀ i ∈ t.ixs, i ∈ vs) (hyp : tG G G.R (dcM vs it t mk mv) σ H Q) :
    tDcT (iG G it) (gG G.blk t) (tG G.blk G.blk.R mk) (tG G.blk G.blk.R mv) vs σ H Q := by
  obtain ⟨m, e, h, r, h', a1, a2, a3, a4⟩ := hyp
  rcases bnd_some a3 with ⟨k, p, e1, rfl⟩ | ⟨s, h1, e1, e2⟩
  · exact ⟨m, e, h, _, h', a1, a2, e1, a4⟩
  refine ⟨m, e, h, _, h1, a1, a2, e1, fun m1 H1 x1 y1 J dr D hD => ?_⟩
  obtain ⟨hz, e3, e4⟩ := map_some e2
  cases e4
  obtain ⟨b1, b2⟩ := y1.alloc (p := D) (ob := .dt []) (o := .dT []) hD ⟨[], rfl, rfl⟩
  have q1 : (m1 ++ [D])[h1.length]? = some D := ix_last y1
  have e0 := ((a2.ext x1).ext b2).wipe vs
  refine ⟨fun i n H' => n = s.len - i ∧ ∃ m' h'', Ext (m1 ++ [D]) (upd H1 D (.dT [])) m' H' ∧ G.H m' h'' H' ∧ i ≤ s.len ∧ dcLoop s t mk mv h1.length (wipeE e vs) (s.len - i) i h'' = some h', ⟨s.len, rfl, _, _, Ext.refl _ _, b1, Nat.zero_le _, e3⟩, ?_⟩
  rintro i n H' ⟨rfl, m', h'', c1, c2, c3, c4⟩
  obtain ⟨d1, d2⟩ := dr m' h'' H' (b2.trans c1) c2
  by_cases hi : i = s.len
  · subst hi
    rw [Nat.sub_self] at c4
    have c4 : (if s.done h'' then some h'' else none) = some h' := c4
    split at c4
    · rename_i hd
      cases c4
      exact .inl ⟨d2 hd, a4 m' H' (x1.trans (b2.trans c1)) c2 _ ⟨D, c1.ix q1, rfl⟩⟩
    · cases c4
  · obtain ⟨k, hk⟩ : ∃ k, s.len - i = k + 1 := ⟨s.len - i - 1, by omega⟩
    rw [hk] at c4
    dsimp only [dcLoop] at c4
    split at c4
    · cases c4
    rename_i d hd
    obtain ⟨j1, j2⟩ := d1 i d hd
    refine .inr ⟨j1, fun H' => ∃ m' h'', Ext (m1 ++ [D]) (upd H1 D (.dT [])) m' H' ∧ G.H m' h'' H' ∧ dcLoop s t mk mv h1.length (wipeE e vs) k (i + 1) h'' = some h',
      fun H'' ⟨m', h'', l1, l2, l3⟩ => ⟨k, by omega, by omega, m', h'', l1, l2, by omega, by rw [show s.len - (i + 1) = k by omega]; exact l3⟩, fun x H'' hy => ?_⟩
    obtain ⟨z1, z2, z3⟩ := j2 x H'' hy
    split at c4
    · cases c4
    rename_i e1' he1
    refine ⟨m', wipeE e vs, h'', d, e1', z2, (e0.ext (c1.trans z1)).toBlk, z3, he1, fun σ2 s1 s2 => ⟨(s2 vs ht).trans wipe_wipe, ?_⟩⟩
    split at c4
    · rename_i ks h2 hc2
      refine ⟨m', e1', h'', _, h2, z2, s1, hc2, fun m3 H3 x3 y3 y gy => ?_⟩
      split at c4
      · rename_i xd h3 hm2
        refine ⟨m3, e1', h2, _, h3, y3, s1.ext x3, hm2, fun m4 H4 x4 y4 z gz => ?_⟩
        split at c4
        · rename_i kk kvs hkk hacc
          split at c4
          · rename_i hlt
            have ix := (c1.trans (z1.trans (x3.trans x4))).ix q1
            obtain ⟨us, q3, q4⟩ := ref_dt y4 ix hacc
            obtain ⟨b, bs, rfl, hb, gb⟩ := RelD.ext x4 (.tup ks) y gy
            obtain ⟨w1, w2⟩ := y4.write (ob := .dt (putD kvs kk xd)) (o := .dT (putK us kk z)) ix ⟨_, rfl, KV_put kk q4 gz⟩
            exact ⟨us, kk, b, rfl, by rw [hb, keysD_rel hkk gb], q3, by rw [KV_len q4, ← Z_eq]; exact hlt, m4, _, c1.trans (z1.trans (x3.trans (x4.trans w2))), w1, c4⟩
          · cases c4
        · cases c4
      · cases c4
    · cases c4
end
section
variable {X : Cx} {C : CE} {G : Pc} {F : Call} {S : Sm}
theorem dcomp_main {k v tg it : Expr} {sc : Scope} {σ : L2.St} {H : Hp} {Q : VK} (h : tG G G.R (dcompE S C k v tg it sc) σ H Q) :
    ∃ t, compT C tg it sc = some t ∧ tDcT (iG G (S.I C tg it)) (gG G.blk t) (tG G.blk G.blk.R (S.E (C.inBlk sc) k)) (tG G.blk G.blk.R (S.E (C.inBlk sc) v)) ((ownOf C.N sc).map (·.2)) σ H Q := by
  unfold dcompE at h
  split at h
  · rename_i t ht
    exact ⟨t, ht, dc_main (compT_some ht).2.2.2.2 h⟩
  · exact (tG_stuck h).elim
theorem e_dc {k v tg it : Expr} {sc : Scope} {pos : Pos} (hE : OkE S F) (hI : OkI S F) (f : Fit X C G F) : PE X (.DictComp k v [⟨tg, it, [], 0⟩] sc pos) (tG G G.R (dcompE S C k v tg it sc)) := by
  refine ⟨fun pins s σ H Q I q => ?_⟩
  obtain ⟨t, ht, q⟩ := dcomp_main q
  obtain ⟨c1, c2, c3, c4, c5⟩ := compT_some ht
  exact (pe_dcT (by have := f.un; omega) (by rw [f.calm]; exact c1) (by rw [f.N]; exact f.nd) (hI X C G f tg it) (blk_ok f c2) (fun s H a cl fp => pg_tg (f.blk c1 sc s H a cl fp) c4)
    (fun s H a cl fp => hE _ _ _ (f.blk c1 sc s H a cl fp) k) (fun s H a cl fp => hE _ _ _ (f.blk c1 sc s H a cl fp) v) (folded c3)).run pins s σ H Q I q
theorem s_dc {k v tg it : Expr} {sc : Scope} {pos spos py : Pos} {i : Nat} {y : Str} (hE : OkE S F) (hI : OkI S F) (f : Fit X C G F) (hy : X.N[i]? = some y) (hyl : X.env.scope.names.lookup y = some .local)
    (hsw : swapsWith (.DictComp k v [⟨tg, it, [], 0⟩] sc pos) (some (.Name y py)) spos.line X.env = pure true) :
    PS X (.Assign [.Name y py] (.DictComp k v [⟨tg, it, [], 0⟩] sc pos) spos) (tAsg (tG G G.R (dcompE S C k v tg it sc)) (gName i)) := by
  refine ⟨fun pins s σ H D I q => ?_⟩
  obtain ⟨t, ht, q⟩ := dcomp_main q
  obtain ⟨c1, c2, c3, c4, c5⟩ := compT_some ht
  exact (ps_setDcT (by have := f.un; omega) (by rw [f.calm]; exact c1) (by rw [f.N]; exact f.nd) hy hyl hsw (hI X C G f tg it) (blk_ok f c2) (fun s H a cl fp => pg_tg (f.blk c1 sc s H a cl fp) c4)
    (fun s H a cl fp => hE _ _ _ (f.blk c1 sc s H a cl fp) k) (fun s H a cl fp => hE _ _ _ (f.blk c1 sc s H a cl fp) v) (folded c3)).run pins s σ H D I q
/-! # 20. Displays of dicts -/
def RelPs (K : PySem.W.Frag) (w : World) (m : List Addr) (H : Hp) (ds : List (D × D)) (vs : List (V × V)) : Prop := RelDs K w m H (ds.map (·.1)) (vs.map (·.1)) ∧ RelDs K w m H (ds.map (·.2)) (vs.map (·.2))
theorem pairs_main {σ : L2.St} : ∀ {ms : List (M D × M D)} {H : Hp} {Q : List (V × V) → Hp → Prop} {m : List Addr} {e : DE} {h h' : DH} {kvs : List (D × D)}, G.H m h H → EnvR G m H e σ → dispL ms e h = some (.ok kvs, h') →
    (∀ m' H', Ext m H m' H' → G.H m' h' H' → ∀ ps, RelPs G.K G.w m' H' kvs ps → Q ps H') → tPairs (ms.map fun p => (tG G G.R p.1, tG G G.R p.2)) σ H Q
  | [], H, Q, m, e, h, h', kvs, a1, a2, a3, a4 => by
    cases a3
    exact a4 m H (Ext.refl _ _) a1 [] ⟨rfl, rfl⟩
  | p :: ms, H, Q, m, e, h, h', kvs, a1, a2, a3, a4 => by
    rcases bnd_some a3 with ⟨c, q, _, z⟩ | ⟨k, h1, e1, e2⟩
    · cases z
    rcases bnd_some e2 with ⟨c, q, _, z⟩ | ⟨v, h2, e3, e4⟩
    · cases z
    rcases bnd_some e4 with ⟨c, q, _, z⟩ | ⟨rs, h3, e5, e6⟩
    · cases z
    cases e6
    refine ⟨m, e, h, _, h1, a1, a2, e1, fun m1 H1 x1 y1 x gx => ?_⟩
    refine ⟨m1, e, h1, _, h2, y1, a2.ext x1, e3, fun m2 H2 x2 y2 y gy => ?_⟩
    refine pairs_main y2 ((a2.ext x1).ext x2) e5 fun m3 H3 x3 y3 ps gp => ?_
    exact a4 m3 H3 (x1.trans (x2.trans x3)) y3 _ ⟨⟨x, _, rfl, gx.ext (x2.trans x3), gp.1⟩, ⟨y, _, rfl, gy.ext x3, gp.2⟩⟩
theorem dispKV_rel {K : PySem.W.Frag} {w : World} {m : List Addr} {H : Hp} : ∀ {ds : List (D × D)} {l : List (Key × D)} {ps : List (V × V)}, dispKV ds = some l → RelPs K w m H ds ps → ∃ vs : List (Key × V), ps = vs.map (fun kv => (kV kv.1, kv.2)) ∧ RelKV K w m H l vs
  | [], l, ps, e, g => by
    cases (show some [] = some l from e)
    have : ps = [] := List.map_eq_nil_iff.mp (show ps.map (·.1) = [] from g.1)
    subst this
    exact ⟨[], rfl, rfl⟩
  | d :: ds, l, ps, e, g => by
    obtain ⟨g1, g2⟩ := g
    cases ps with
    | nil => obtain ⟨v, r, z, _⟩ := g1; cases z
    | cons p ps =>
      obtain ⟨v, r, z, h1, h2⟩ := g1
      cases z
      obtain ⟨v', r', z', h3, h4⟩ := g2
      cases z'
      obtain ⟨q, qs, e1, e2, e3⟩ := mapM_cons_some e
      cases e3
      obtain ⟨k, e4, e5⟩ := map_some e1
      subst e5
      obtain ⟨vs, rfl, gr⟩ := dispKV_rel (ps := ps) e2 ⟨h2, h4⟩
      exact ⟨(k, p.2) :: vs, by rw [List.map_cons]; dsimp only; rw [← keyD_rel e4 h1], p.2, vs, rfl, h3, gr⟩
theorem KV_merge {K : PySem.W.Frag} {w : World} {m : List Addr} {H : Hp} : ∀ {l : List (Key × D)} {vs : List (Key × V)} {acc : List (Key × D)} {av : List (Key × V)}, RelKV K w m H l vs → RelKV K w m H acc av →
    RelKV K w m H (l.foldl (fun acc kv => putD acc kv.1 kv.2) acc) (mergeK av vs)
  | [], vs, acc, av, g, ga => by cases (show vs = [] from g); exact ga
  | p :: l, vs, acc, av, g, ga => by
    obtain ⟨v, r, rfl, g1, g2⟩ := g
    have z := KV_merge (l := l) (vs := r) g2 (KV_put p.1 ga g1)
    exact z
theorem disp_main {ms : List (M D × M D)} {σ : L2.St} {H : Hp} {Q : VK} (hyp : tG G G.R (dispM ms) σ H Q) : tDisp (ms.map fun p => (tG G G.R p.1, tG G G.R p.2)) σ H Q := by
  obtain ⟨m, e, h, r, h', a1, a2, a3, a4⟩ := hyp
  intro p hp
  unfold dispM at a3
  split at a3
  · rename_i kvs h1 e1
    split at a3
    · rename_i l e2 e3
      split at a3
      · rename_i hl
        cases a3
        obtain ⟨b1, b2⟩ := a1.alloc (p := p) (ob := .dk []) (o := .dK []) hp ⟨[], rfl, rfl⟩
        have q1 : (m ++ [p])[h.length]? = some p := ix_last a1
        refine pairs_main b1 (a2.ext b2) e1 fun m' H' x y ps gp => ?_
        obtain ⟨us, q3, q4⟩ := ref_dk y (x.ix q1) e2
        cases (show us = [] from q4)
        obtain ⟨vs, rfl, gv⟩ := dispKV_rel e3 gp
        have gm := KV_merge gv (acc := []) (av := []) (show RelKV G.K G.w m' H' [] [] from rfl)
        obtain ⟨w1, w2⟩ := y.write (ob := .dk (l.foldl (fun acc kv => putD acc kv.1 kv.2) [])) (o := .dK (mergeK [] vs)) (x.ix q1) ⟨_, rfl, gm⟩
        exact ⟨q3, vs, rfl, by rw [KV_len gv]; exact hl, a4 m' _ (b2.trans (x.trans w2)) w1 _ ⟨p, x.ix q1, rfl⟩⟩
      · cases a3
    · cases a3
  · cases a3
theorem pps_all {pos : Pos} {g : Expr → M D} (hE : ∀ e, PE X e (tG G G.R (g e))) : ∀ {keys : List (Option Expr)} {vals : List Expr}, keys.all Option.isSome = true → keys.length = vals.length →
    PPs X pos keys vals (((keys.zip vals).map fun p => ((match p.1 with | some k => g k | none => (stuck : M D)), g p.2)).map fun p => (tG G G.R p.1, tG G G.R p.2))
  | [], [], _, _ => pps_nil
  | some k :: ks, v :: vs, h1, h2 => pps_cons (hE k) (hE v) (pps_all hE (by simpa using h1) (by simpa using h2))
  | none :: ks, v :: vs, h1, h2 => by simp at h1
theorem e_disp {keys : List (Option Expr)} {vals : List Expr} {pos : Pos} (hE : ∀ e, PE X e (tG G G.R (S.E C e))) (h1 : keys.all Option.isSome = true) (h2 : keys.length = vals.length) (h3 : keys ≠ []) (h4 : keys.length ≤ 15) :
    PE X (.Dict keys vals pos) (tG G G.R (dispM ((keys.zip vals).map fun p => (match p.1 with | some k => S.E C k | none => stuck, S.E C p.2)))) :=
  PE.of (pe_disp (pps_all hE h1 h2) h1 h2 h3 h4) fun σ H Q h => disp_main h
end
end Dd

set_option Elab.async false
set_option linter.all false
set_option maxRecDepth 100000
set_option maxHeartbeats 4000000
namespace Dd
open PySem PySem.Spec PyProof.Rows L2

/-! # 21. Every expression of the semantics is walked -/
theorem plainIx {b : Expr} (h : isSl b = false) : PlainIx b := by
  intro o i
  cases b <;> first | rfl | cases h
theorem marks2 {op op' : PySem.CmpOp} {f g : D → D → DH → Option (D × DH)} {b c : Expr} (h : ordD op = some f) (h' : ordD op' = some g) : lastMarks [op, op'] [b, c] = false :=
  nomark c (fun e => by subst e; cases h') (fun e => by subst e; cases h')
section
variable {G : Pc} {σ : L2.St} {H : Hp} {Q : VK}
theorem ret_val {d : D} {v : V} (hv : ∀ m H, G.R m H d v) (h : tG G G.R (ret d) σ H Q) : Q v H := by
  obtain ⟨m, e, hh, a1, a2, a3⟩ := tG_ret h
  exact a3 v (hv m H)
theorem notV_tG {ma : M D} (h : tG G G.R (notV ma) σ H Q) : tNotV (tG G G.R ma) σ H Q := (tG_bnd h).mono fun x H1 h1 => tA1_not h1
theorem tup_main {xs : List V} (h : rDN G tupM xs H Q) : xs.length ≤ sizeLine ∧ ∀ p, H p = none → Q (.ref p) (upd H p (.tup xs)) := by
  obtain ⟨m, hh, as, d, h', a1, ra, e, q⟩ := h
  unfold tupM at e
  split at e
  · rename_i hz
    cases e
    refine ⟨by rw [RelDs.length ra, ← Z_eq]; exact hz, fun p hp => ?_⟩
    obtain ⟨b1, b2, b3⟩ := new_tup (K := G.K) (w := G.w) a1 hp ra
    exact q m _ _ b2 b1 b3
  · cases e
theorem lst_main {xs : List V} (h : rDN G lstM xs H Q) : xs.length ≤ sizeLine ∧ ∀ p, H p = none → Q (.ref p) (upd H p (.lst xs)) := by
  obtain ⟨m, hh, as, d, h', a1, ra, e, q⟩ := h
  unfold lstM at e
  split at e
  · rename_i hz
    cases e
    refine ⟨by rw [RelDs.length ra, ← Z_eq]; exact hz, fun p hp => ?_⟩
    obtain ⟨b1, b2, b3⟩ := new_lst (K := G.K) (w := G.w) a1 hp ra
    exact q _ _ _ b2 b1 b3
  · cases e
/-- a slice -/
theorem slice_main {ma : M D} {lo hi : M (Option Int)} (h : tG G G.R (sliceM ma lo hi) σ H Q) : tSl (rDSl G) (tG G G.R ma) (tG G relQ lo) (tG G relQ hi) σ H Q := by
  obtain ⟨m, e, hh, r, h', a1, a2, a3, a4⟩ := h
  rcases bnd_some a3 with ⟨c, p, e1, rfl⟩ | ⟨d, h1, e1, e2⟩
  · exact ⟨m, e, hh, _, h', a1, a2, e1, a4⟩
  refine ⟨m, e, hh, _, h1, a1, a2, e1, fun m1 H1 x1 y1 x gx => ?_⟩
  rcases bnd_some e2 with ⟨c, p, e3, rfl⟩ | ⟨l, h2, e3, e4⟩
  · exact ⟨m1, e, h1, _, h', y1, a2.ext x1, e3, fun m' H' x y => a4 m' H' (x1.trans x) y⟩
  refine ⟨m1, e, h1, _, h2, y1, a2.ext x1, e3, fun m2 H2 x2 y2 l' hl => ?_⟩
  cases (show l = l' from hl)
  rcases bnd_some e4 with ⟨c, p, e5, rfl⟩ | ⟨u, h3, e5, e6⟩
  · exact ⟨m2, e, h2, _, h', y2, (a2.ext x1).ext x2, e5, fun m' H' x y => a4 m' H' (x1.trans (x2.trans x)) y⟩
  refine ⟨m2, e, h2, _, h3, y2, (a2.ext x1).ext x2, e5, fun m3 H3 x3 y3 u' hu => ?_⟩
  cases (show u = u' from hu)
  obtain ⟨z, rfl, e7⟩ := lift_some e6
  exact ⟨m3, h3, d, z, h', y3, (gx.ext x2).ext x3, e7, fun m' H' v x y z => a4 m' H' (x1.trans (x2.trans (x3.trans x))) y v z⟩
end
section
variable {X : Cx} {C : CE} {G : Pc} {F : Call} {S : Sm}
theorem e_call (hE : OkE S F) (f : Fit X C G F) (fn : Str) (as : List Expr) (p pos : Pos) : PE X (.Call (.Name fn p) as [] pos) (tG G G.R (callE F S C fn as)) := by
  have iE := hE X C G f
  unfold callE
  split
  · rename_i hg
    simp only [Bool.and_eq_true, decide_eq_true_eq] at hg
    obtain ⟨⟨hs, h30⟩, hgl⟩ := hg
    split
    · rename_i i ar hx
      split
      · rename_i hc
        simp only [Bool.and_eq_true, decide_eq_true_eq] at hc
        obtain ⟨⟨c1, c2⟩, c3⟩ := hc
        cases as with
        | nil => rw [← c2] at c3; exact absurd c3 (Nat.lt_irrefl _)
        | cons a as => exact e_fn f hx hgl c1 hs (pa_all iE hs)
      · exact PE.never fun σ H Q h => tG_stuck h
    · split
      · rename_i hf
        subst hf
        split
        · rename_i a T pT
          split
          · rename_i hT
            split
            · rename_i t ht
              rw [List.all_cons, Bool.and_eq_true] at hs
              exact e_isin f (iE a) hs.1 hgl hT ht
            · exact PE.never fun σ H Q h => tG_stuck h
          · exact PE.never fun σ H Q h => tG_stuck h
        · exact PE.never fun σ H Q h => tG_stuck h
      · split
        · rename_i b hb
          split
          · exact PE.never fun σ H Q h => tG_stuck h
          · rename_i hc
            cases as with
            | nil => simp at hc
            | cons a as =>
              refine e_blt f hb hgl ?_ hs (pa_all iE hs)
              cases hh : (needsCalm b && !C.calm) with
              | false => rfl
              | true => rw [hh] at hc; exact absurd rfl hc
        · exact PE.never fun σ H Q h => tG_stuck h
  · exact PE.never fun σ H Q h => tG_stuck h
theorem e_attr (f : Fit X C G F) (x nm : Str) (p pos : Pos) : PE X (.Attribute (.Name x p) nm pos) (tG G G.R (stepE F S C (.Attribute (.Name x p) nm pos))) := by
  dsimp only [stepE]
  cases hk : C.hk with
  | none => exact PE.never fun σ H Q h => tG_stuck h
  | some q =>
    obtain ⟨i, c⟩ := q
    dsimp only
    split
    · rename_i hc
      rw [Bool.and_eq_true] at hc
      have hv : visIx C x = some i := of_decide_eq_true hc.1
      obtain ⟨y, e1, e2⟩ := map_some (of_decide_eq_true hc.2).symm.symm
      obtain ⟨y1, y2⟩ := y
      have e2 : nm = y2 := e2
      subst e2
      have e3 := f.excF c y1 nm e1
      subst e3
      obtain ⟨a, dd, g1, g2⟩ := f.hk1 i c hk
      obtain ⟨h1, h2, h3⟩ := f.vis hv
      obtain ⟨p1, p2, _⟩ := plain_ne h3
      refine PE.of (g2 _ _ pos (pe_var h1 h2 p1 p2) rfl) fun σ H Q h => ?_
      obtain ⟨m, e, hh, r, h', a1, a2, a3, a4⟩ := h
      have a3 : var i e hh = some (r, h') := a3
      dsimp only [var] at a3
      split at a3
      · rename_i d ed
        cases a3
        have sl := a2.slot i d ed
        unfold SlotR at sl
        rw [g1] at sl
        dsimp only at sl
        rw [if_pos rfl] at sl
        obtain ⟨s1, u, s2, s3⟩ := sl
        exact ⟨_, s1, rfl, u, s2, a4 m H (Ext.refl _ _) a1 u s3⟩
      · cases a3
    · exact PE.never fun σ H Q h => tG_stuck h
theorem ok_E (hE : OkE S F) (hT : OkT S F) (hI : OkI S F) (hO : OkO S F) : OkE (stepQ F S) F := by
  intro X C G f e
  have iE := hE X C G f
  have nv : ∀ {e : Expr}, PE X e (tG G G.R (stuck : M D)) := PE.never fun σ H Q h => tG_stuck h
  show PE X e (tG G G.R (stepE F S C e))
  unfold stepE
  split
  · exact PE.of pe_int fun σ H Q h => ret_val (G := G) (d := .int _) (fun m H => rfl) h
  · exact PE.of pe_bl fun σ H Q h => ret_val (G := G) (d := .bl _) (fun m H => rfl) h
  · exact PE.of pe_non fun σ H Q h => ret_val (G := G) (d := .non) (fun m H => rfl) h
  · exact PE.of pe_str fun σ H Q h => ret_val (G := G) (d := .str _) (fun m H => rfl) h
  · exact e_name (S := S) f _ _
  · split
    · rename_i hf
      exact PE.of (pe_op (o_bin f.K f.w hf) (iE _) (iE _)) fun σ H Q h => op2_tG h
    · exact nv
  · exact PE.of (pe_un (o_neg f.K f.w) (iE _)) fun σ H Q h => op1_tG h
  · exact PE.of (pe_not (iE _)) fun σ H Q h => notV_tG h
  · exact pe_one (iE _)
  · exact PE.of (pe_and (iE _) (iE _)) fun σ H Q h => andV_tG h
  · exact PE.of (pe_or (iE _) (iE _)) fun σ H Q h => orV_tG h
  · exact PE.of (pe_ifExp (hT X C G f _) (iE _) (iE _)) fun σ H Q h => ite_tG h
  · split
    · exact nv
    · rename_i hb
      split
      · rename_i hf
        exact PE.of (pe_cmpR (o_cmp f.K f.w hf f.un) (iE _) (iE _) (setMark (by simpa using hb))) fun σ H Q h => op2_tG h
      · exact nv
  · split
    · rename_i h1 h2
      exact PE.of (pe_chain (o_ord f.K f.w h1) (o_ord f.K f.w h2) (iE _) (iE _) (iE _) (marks2 h1 h2)) fun σ H Q h => chn_tG h
    · exact nv
  · split
    · rename_i hs
      exact PE.of (pe_tup (pa_all iE hs)) fun σ H Q h => (opN_tG h).mono fun xs H1 h1 => tup_main h1
    · exact nv
  · split
    · rename_i hs
      exact PE.of (pe_lst (pa_all iE hs)) fun σ H Q h => (opN_tG h).mono fun xs H1 h1 => lst_main h1
    · exact nv
  · split
    · rename_i hh
      simp only [Bool.and_eq_true, decide_eq_true_eq, Bool.not_eq_true'] at hh
      obtain ⟨⟨⟨h1, h2⟩, h3⟩, h4⟩ := hh
      exact e_disp iE h1 h2 (fun z => by rw [z] at h3; cases h3) h4
    · exact nv
  · exact PE.of (pe_slice (s_slice f.K f.w) (iE _) (hO X C G f _) (hO X C G f _)) fun σ H Q h => slice_main h
  · split
    · exact nv
    · rename_i hb
      exact PE.of (pe_ix (x_ix f.K f.w f.un) (iE _) (iE _) (plainIx (by simpa using hb))) fun σ H Q h => op2_tG h
  · exact e_attr (S := S) f _ _ _ _
  · exact e_call hE f _ _ _ _
  · split
    · rename_i hh
      simp only [Bool.and_eq_true, decide_eq_true_eq] at hh
      obtain ⟨⟨⟨h1, h2⟩, h3⟩, h4⟩ := hh
      split
      · rename_i k hk
        split
        · exact nv
        · rename_i hz
          refine e_mth f hk h1 h2 h3 h4 (iE _) (pa_all iE h3) fun z => ?_
          subst z
          refine ⟨?_, rfl⟩
          cases k <;> first | rfl | exact absurd rfl hz
      · split
        · rename_i hb
          rw [Bool.and_eq_true] at hb
          have hm := of_decide_eq_true hb.1
          have ha := List.isEmpty_iff.mp hb.2
          subst hm ha
          refine PE.of (pe_bits (iE _) (base_eq h2) h1) fun σ H Q h => ?_
          refine (tG_bnd h).mono fun x H1 h1 => ?_
          obtain ⟨K, W, cls, fld, Wx, hk⟩ := G
          obtain ⟨m, h, d, z, h', a1, ra, e, q⟩ := tA1_op h1
          unfold bitsD at e
          split at e
          · cases e
            exact ⟨_, ra, q m H1 _ (Ext.refl _ _) a1 rfl⟩
          · cases e
        · exact nv
    · exact nv
  · exact e_lc hE hT hI f
  · exact e_dc hE hI f
  · exact nv
end
end Dd

set_option Elab.async false
set_option linter.all false
set_option maxRecDepth 100000
set_option maxHeartbeats 4000000
namespace Dd
open PySem PySem.Spec PyProof.Rows L2

/-! # 22. Tests and parts of slices -/
section
variable {G : Pc} {σ : L2.St} {H : Hp}
theorem tst_tG {ma : M D} {Q : Bool → Hp → Prop} (h : tG G relB (tst ma) σ H Q) : tTest (tG G G.R ma) σ H Q := by
  obtain ⟨m, e, hh, r, h', a1, a2, a3, a4⟩ := h
  rcases bnd_some a3 with ⟨c, p, e1, rfl⟩ | ⟨d, h1, e1, e2⟩
  · exact ⟨m, e, hh, _, h', a1, a2, e1, a4⟩
  refine ⟨m, e, hh, _, h1, a1, a2, e1, fun m1 H1 x1 y1 x gx => ?_⟩
  cases d with
  | bl b =>
    cases e2
    exact ⟨b, gx, a4 m1 H1 x1 y1 b rfl⟩
  | _ => cases e2
theorem tru_tG {ma : M D} {Q : Bool → Hp → Prop} (h : tG G relB (tru truD ma) σ H Q) : tG G G.R ma σ H fun x H' => ∃ k, TruV G.K x H' k ∧ Q k H' := by
  obtain ⟨m, e, hh, r, h', a1, a2, a3, a4⟩ := h
  rcases bnd_some a3 with ⟨c, p, e1, rfl⟩ | ⟨d, h1, e1, e2⟩
  · exact ⟨m, e, hh, _, h', a1, a2, e1, a4⟩
  refine ⟨m, e, hh, _, h1, a1, a2, e1, fun m1 H1 x1 y1 x gx => ?_⟩
  obtain ⟨b, rfl, e3⟩ := lift_some e2
  obtain ⟨b', e4, e5⟩ := map_some e3
  cases e5
  exact ⟨b, tru_rel y1 e4 gx, a4 m1 H1 x1 y1 b rfl⟩
theorem notT_tG {ma : M Bool} {Q : Bool → Hp → Prop} (h : tG G relB (notT ma) σ H Q) : tNot (tG G relB ma) σ H Q :=
  (tG_bndB h).mono fun c H1 h1 => by
    obtain ⟨m, e, hh, a1, a2, a3⟩ := tG_ret h1
    exact a3 _ rfl
theorem andT_tG {ma mb : M Bool} {Q : Bool → Hp → Prop} (h : tG G relB (andT ma mb) σ H Q) : tAnd (tG G relB ma) (tG G relB mb) σ H Q :=
  (tG_bndB h).mono fun c H1 h1 => by
    cases c with
    | true => exact h1
    | false =>
      obtain ⟨m, e, hh, a1, a2, a3⟩ := tG_ret h1
      exact a3 _ rfl
theorem orT_tG {ma mb : M Bool} {Q : Bool → Hp → Prop} (h : tG G relB (orT ma mb) σ H Q) : tOr (tG G relB ma) (tG G relB mb) σ H Q :=
  (tG_bndB h).mono fun c H1 h1 => by
    cases c with
    | false => exact h1
    | true =>
      obtain ⟨m, e, hh, a1, a2, a3⟩ := tG_ret h1
      exact a3 _ rfl
theorem intOf_tG {ma : M D} {Q : Option Int → Hp → Prop} (h : tG G relQ (intOf ma) σ H Q) : tPart (tG G G.R ma) σ H Q := by
  obtain ⟨m, e, hh, r, h', a1, a2, a3, a4⟩ := h
  rcases bnd_some a3 with ⟨c, p, e1, rfl⟩ | ⟨d, h1, e1, e2⟩
  · exact ⟨m, e, hh, _, h', a1, a2, e1, a4⟩
  refine ⟨m, e, hh, _, h1, a1, a2, e1, fun m1 H1 x1 y1 x gx => ?_⟩
  cases d with
  | int b =>
    cases e2
    exact ⟨b, gx, a4 m1 H1 x1 y1 _ rfl⟩
  | _ => cases e2
end
theorem truth_by {e : Expr} (h : isTst e = false) (env : Env) : ∀ whole, isTrue e env whole = (do let v ← whole; standAt e.pos; holding [v] (truthy v)) := by
  intro whole
  unfold isTst at h
  cases e with
  | UnaryOp op a p => cases op <;> first | rfl | cases h
  | BoolOp => cases h
  | IfExp => cases h
  | Compare => cases h
  | _ => rfl
section
variable {X : Cx} {C : CE} {G : Pc} {F : Call} {S : Sm}
theorem PO.of {e : Option Expr} {t t' : TO} (h : PO X e t) (w : ∀ σ H Q, t' σ H Q → t σ H Q) : PO X e t' := ⟨fun pins s σ H Q I q => h.run pins s σ H Q I (w σ H Q q)⟩
theorem PW.of {e : Expr} {t t' : TT} (h : PW X e t) (w : ∀ σ H Q, t' σ H Q → t σ H Q) : PW X e t' := ⟨fun wh pins s σ H Q I q => h.run wh pins s σ H Q I (w σ H Q q)⟩
theorem PW.never {e : Expr} {t : TT} (w : ∀ σ H Q, t σ H Q → False) : PW X e t := ⟨fun wh pins s σ H Q I q => (w σ H Q q).elim⟩
theorem ok_O (hE : OkE S F) : OkO (stepQ F S) F := by
  intro X C G f o
  show PO X o (tG G relQ (stepO S C o))
  cases o with
  | none =>
    refine PO.of po_none fun σ H Q h => ?_
    obtain ⟨m, e, hh, a1, a2, a3⟩ := tG_ret h
    exact a3 _ rfl
  | some e => exact PO.of (po_some (hE X C G f e)) fun σ H Q h => intOf_tG h
theorem ok_W (hT : OkT S F) (hW : OkW S F) : OkW (stepQ F S) F := by
  intro X C G f op es p
  have iT := hT X C G f
  show PW X (.BoolOp op es p) (tG G relB (stepT F S C (.BoolOp op es p)))
  cases op with
  | And =>
    match es with
    | [] => exact PW.never fun σ H Q h => tG_stuck h
    | [a] => exact pw_and1 (iT a)
    | a :: b :: r => exact PW.of (pw_and (iT a) (hW X C G f _ _ _)) fun σ H Q h => andT_tG h
  | Or =>
    match es with
    | [] => exact PW.never fun σ H Q h => tG_stuck h
    | [a] => exact pw_or1 (iT a)
    | a :: b :: r => exact PW.of (pw_or (iT a) (hW X C G f _ _ _)) fun σ H Q h => orT_tG h
theorem ok_T (hE : OkE S F) (hT : OkT S F) (hW : OkW (stepQ F S) F) : OkT (stepQ F S) F := by
  intro X C G f e
  have iE := hE X C G f
  have iT := hT X C G f
  have nv : ∀ {e : Expr}, PT X e (tG G relB (stuck : M Bool)) := PT.never fun σ H Q h => tG_stuck h
  show PT X e (tG G relB (stepT F S C e))
  have other : ∀ (h : stepT F S C e = if isTst e then stuck else tru truD (S.E C e)), PT X e (tG G relB (stepT F S C e)) := by
    intro h
    rw [h]
    split
    · exact nv
    · rename_i ht
      refine PT.of (pt_truth (iE e) (truth_by (by simpa using ht) _)) fun σ H Q h => ?_
      have z := tru_tG h
      rw [← f.K] at z
      exact z
  cases e with
  | UnaryOp op a p =>
    cases op with
    | Not => exact PT.of (pt_not (iT a)) fun σ H Q h => notT_tG h
    | _ => exact other rfl
  | BoolOp op es p => exact (hW X C G f op es p).pt
  | Compare a ops bs p =>
    show PT X _ (tG G relB (tst (stepE F S C (.Compare a ops bs p))))
    match ops, bs with
    | [op], [b] =>
      show PT X _ (tG G relB (tst (if isSetE b then stuck else match cmpD op with | some f => op2 f (S.E C a) (S.E C b) | none => stuck)))
      split
      · exact PT.never fun σ H Q h => tG_stuck (tst_tG h)
      · rename_i hb
        split
        · rename_i hf
          exact PT.of (pt_cmpR (o_cmp f.K f.w hf f.un) (iE _) (iE _) (setMark (by simpa using hb))) fun σ H Q h => op2_tG (tst_tG h)
        · exact PT.never fun σ H Q h => tG_stuck (tst_tG h)
    | [op, op'], [b, c] =>
      show PT X _ (tG G relB (tst (match ordD op, ordD op' with | some f, some g => chn f g (S.E C a) (S.E C b) (S.E C c) | _, _ => stuck)))
      split
      · rename_i h1 h2
        exact PT.of (pt_chain (o_ord f.K f.w h1) (o_ord f.K f.w h2) (iE _) (iE _) (iE _) (marks2 h1 h2)) fun σ H Q h => chn_tG (tst_tG h)
      · exact PT.never fun σ H Q h => tG_stuck (tst_tG h)
    | [], _ => exact PT.never fun σ H Q h => tG_stuck (tst_tG h)
    | [_], [] => exact PT.never fun σ H Q h => tG_stuck (tst_tG h)
    | [_], _ :: _ :: _ => exact PT.never fun σ H Q h => tG_stuck (tst_tG h)
    | [_, _], [] => exact PT.never fun σ H Q h => tG_stuck (tst_tG h)
    | [_, _], [_] => exact PT.never fun σ H Q h => tG_stuck (tst_tG h)
    | _ :: _ :: _ :: _, [] => exact PT.never fun σ H Q h => tG_stuck (tst_tG h)
    | _ :: _ :: _ :: _, [_] => exact PT.never fun σ H Q h => tG_stuck (tst_tG h)
    | [_, _], _ :: _ :: _ :: _ => exact PT.never fun σ H Q h => tG_stuck (tst_tG h)
    | _ :: _ :: _ :: _, _ :: _ :: _ => exact PT.never fun σ H Q h => tG_stuck (tst_tG h)
  | _ => exact other rfl
end
end Dd

set_option Elab.async false
set_option linter.all false
set_option maxRecDepth 100000
set_option maxHeartbeats 4000000
namespace Dd
open PySem PySem.Spec PyProof.Rows L2

/-! # 23. Statements: what is asked -/
def FinS (G : Pc) (D : Ends) (f : Fl) (σ : L2.St) (m : List Addr) (H : Hp) : Prop :=
  match f with
  | .next => D.nx σ H
  | .brk => D.bk σ H
  | .cont => D.ct σ H
  | .ret d => ∀ v, G.R m H d v → D.rt v H
  | .ex c p => ∀ cv d, ExcAt G m H c p cv d → G.W cv d σ H
/-- what is to come, from here -/
def KS (G : Pc) (D : Ends) (m : List Addr) (H : Hp) (f : Fl) (e : DE) (h : DH) : Prop :=
  ∀ m' H' σ', Ext m H m' H' → G.H m' h H' → EnvR G m' H' e σ' → FinS G D f σ' m' H'
theorem KS.ext {G : Pc} {D : Ends} {m m1 : List Addr} {H H1 : Hp} {f : Fl} {e : DE} {h : DH} (k : KS G D m H f e h) (x : Ext m H m1 H1) : KS G D m1 H1 f e h := fun m' H' σ' y => k m' H' σ' (x.trans y)
def tS (G : Pc) (M : MS) : TS := fun D σ H => ∃ m e h f e' h', G.H m h H ∧ EnvR G m H e σ ∧ M e h = some (f, e', h') ∧ KS G D m H f e' h'
def OkS (S : Sm) (F : Call) : Prop := ∀ (X : Cx) (C : CE) (G : Pc), Fit X C G F → ∀ st, PS X st (tS G (S.S C st))
def OkB (S : Sm) (F : Call) : Prop := ∀ (X : Cx) (C : CE) (G : Pc), Fit X C G F → ∀ st, PSs X st (tS G (S.B C st))
section
variable {G : Pc} {σ : L2.St} {H : Hp} {K : Ends}
theorem tS_stuck (h : tS G stuckS K σ H) : False := by
  obtain ⟨m, e, hh, f, e', h', a1, a2, a3, a4⟩ := h
  cases a3
theorem withM_some {α : Type} {M : M α} {k : α → MS} {e e' : DE} {h h' : DH} {f : Fl} (q : withM M k e h = some (f, e', h')) : (∃ c p, M e h = some (.ex c p, h') ∧ f = .ex c p ∧ e' = e) ∨ ∃ a h1, M e h = some (.ok a, h1) ∧ k a e h1 = some (f, e', h') := by
  unfold withM at q
  cases hm : M e h with
  | none => rw [hm] at q; cases q
  | some p =>
    obtain ⟨r1, h1⟩ := p
    rw [hm] at q
    cases r1 with
    | ex c p => cases q; exact .inl ⟨c, p, rfl, rfl, rfl⟩
    | ok a => exact .inr ⟨a, h1, rfl, q⟩
/-- a value, then -/
theorem tS_with {α β : Type} {rel : List Addr → Hp → α → β → Prop} {M : M α} {k : α → MS} (h : tS G (withM M k) K σ H) :
    tG G rel M σ H fun b H1 => ∃ m a e h f e' h', rel m H1 a b ∧ G.H m h H1 ∧ EnvR G m H1 e σ ∧ k a e h = some (f, e', h') ∧ KS G K m H1 f e' h' := by
  obtain ⟨m, e, hh, f, e', h', a1, a2, a3, a4⟩ := h
  rcases withM_some a3 with ⟨c, p, e1, rfl, rfl⟩ | ⟨a, h1, e1, e2⟩
  · exact ⟨m, _, hh, _, h', a1, a2, e1, fun m' H' x y cv d q => a4 m' H' σ x y (a2.ext x) cv d q⟩
  · exact ⟨m, e, hh, _, h1, a1, a2, e1, fun m1 H1 x1 y1 b hb => ⟨m1, a, e, h1, f, e', h', hb, y1, a2.ext x1, e2, a4.ext x1⟩⟩
theorem skip_tS (h : tS G skip K σ H) : K.nx σ H := by
  obtain ⟨m, e, hh, f, e', h', a1, a2, a3, a4⟩ := h
  cases a3
  exact a4 m H σ (Ext.refl _ _) a1 a2
theorem seq_tS {a b : MS} (h : tS G (seq a b) K σ H) : tSeq (tS G a) (tS G b) K σ H := by
  obtain ⟨m, e, hh, f, e', h', a1, a2, a3, a4⟩ := h
  unfold seq at a3
  split at a3
  · rename_i e1 h1 ha
    exact ⟨m, e, hh, .next, e1, h1, a1, a2, ha, fun m1 H1 σ1 x1 y1 z1 => ⟨m1, e1, h1, f, e', h', y1, z1, a3, a4.ext x1⟩⟩
  · rename_i hn
    refine ⟨m, e, hh, f, e', h', a1, a2, a3, fun m1 H1 σ1 x1 y1 z1 => ?_⟩
    have q := a4 m1 H1 σ1 x1 y1 z1
    cases f with
    | next => exact absurd a3 (hn e' h')
    | _ => exact q
theorem drop_tS {M : M D} (h : tS G (drop M) K σ H) : tDrop (tG G G.R M) K σ H := by
  refine (tS_with h).mono fun b H1 h1 => ?_
  obtain ⟨m, a, e, hh, f, e', h', rb, a1, a2, a3, a4⟩ := h1
  cases a3
  exact a4 m H1 σ (Ext.refl _ _) a1 a2
theorem ret_tS {M : M D} (h : tS G (retS M) K σ H) : tRet (tG G G.R M) K σ H := by
  refine (tS_with h).mono fun b H1 h1 => ?_
  obtain ⟨m, a, e, hh, f, e', h', rb, a1, a2, a3, a4⟩ := h1
  cases a3
  exact a4 m H1 σ (Ext.refl _ _) a1 a2 b rb
theorem asg_tS {t : Tg} {M : M D} (h : tS G (asg t M) K σ H) : tAsg (tG G G.R M) (gG G t) K σ H := by
  refine (tS_with (rel := G.R) h).mono fun b H1 h1 => ?_
  obtain ⟨m, a, e, hh, f, e', h', rb, a1, a2, a3, a4⟩ := h1
  obtain ⟨e1, a5, a6⟩ := map_some a3
  cases a6
  exact ⟨m, e, hh, a, e', a1, a2, rb, a5, fun σ' y1 y2 => a4 m H1 σ' (Ext.refl _ _) a1 y1⟩
theorem asgN_tS {i : Nat} {M : M D} (hn : notHk G i) (h : tS G (asg (.nm i) M) K σ H) : tAsg (tG G G.R M) (gName i) K σ H := by
  refine (tS_with (rel := G.R) h).mono fun b H1 h1 => ?_
  obtain ⟨m, a, e, hh, f, e', h', rb, a1, a2, a3, a4⟩ := h1
  cases a3
  exact a4 m H1 _ (Ext.refl _ _) a1 (a2.set hn rb)
theorem if_tS {t : M Bool} {a b : MS} (h : tS G (ifS t a b) K σ H) : tIfS (tG G relB t) (tS G a) (tS G b) K σ H := by
  refine (tS_with (rel := relB) h).mono fun c H1 h1 => ?_
  obtain ⟨m, a', e, hh, f, e', h', rb, a1, a2, a3, a4⟩ := h1
  cases (show a' = c from rb)
  cases c with
  | true => exact ⟨m, e, hh, f, e', h', a1, a2, a3, a4⟩
  | false => exact ⟨m, e, hh, f, e', h', a1, a2, a3, a4⟩
end
end Dd

set_option Elab.async false
set_option linter.all false
set_option maxRecDepth 100000
set_option maxHeartbeats 4000000
namespace Dd
open PySem PySem.Spec PyProof.Rows L2

/-! # 24. Loops, stores, raise, try: by the plain semantics -/
/-- a op= b of ints that pass a test -/
def ipG (g : Int → Int → Bool) (f : Int → Int → Int) : TIp := fun x y H Q => ∃ i j, x = .int i ∧ y = .int j ∧ g i j = true ∧ Q (.int (f i j)) H
section
variable {G : Pc} {σ : L2.St} {H : Hp} {K : Ends}
theorem for_tS {it : M Src} {t : Tg} {b : MS} (h : tS G (forS it t b) K σ H) : tFor (iG G it) (gG G t) (tS G b) K σ H := by
  obtain ⟨m, e, hh, f, e', h', a1, a2, a3, a4⟩ := h
  rcases withM_some a3 with ⟨c, p, e1, rfl, rfl⟩ | ⟨s, h1, e1, e2⟩
  · exact ⟨m, _, hh, _, h', a1, a2, e1, fun m' H' x y cv d q => a4 m' H' σ x y (a2.ext x) cv d q⟩
  refine ⟨m, e, hh, _, h1, a1, a2, e1, fun m1 H1 x1 y1 J dr => ?_⟩
  refine ⟨fun i n σ' H' => n = s.len - i ∧ ∃ m' ee hx, Ext m1 H1 m' H' ∧ G.H m' hx H' ∧ EnvR G m' H' ee σ' ∧ i ≤ s.len ∧ forL s t b (s.len - i) i ee hx = some (f, e', h'), ⟨s.len, rfl, m1, e, h1, Ext.refl _ _, y1, a2.ext x1, Nat.zero_le _, e2⟩, ?_⟩
  rintro i n σ' H' ⟨rfl, m', ee, hx, c1, c2, c3, c4, c5⟩
  obtain ⟨d1, d2⟩ := dr m' hx H' c1 c2
  by_cases hi : i = s.len
  · subst hi
    rw [Nat.sub_self] at c5
    have c5 : (if s.done hx then some (.next, ee, hx) else none) = some (f, e', h') := c5
    split at c5
    · rename_i hd
      cases c5
      exact .inl ⟨d2 hd, a4 m' H' σ' (x1.trans c1) c2 c3⟩
    · cases c5
  · obtain ⟨k, hk⟩ : ∃ k, s.len - i = k + 1 := ⟨s.len - i - 1, by omega⟩
    rw [hk] at c5
    dsimp only [forL] at c5
    split at c5
    · cases c5
    rename_i d hd
    obtain ⟨j1, j2⟩ := d1 i d hd
    refine .inr ⟨j1, fun σ' H' => ∃ m' ee hx, Ext m1 H1 m' H' ∧ G.H m' hx H' ∧ EnvR G m' H' ee σ' ∧ forL s t b k (i + 1) ee hx = some (f, e', h'),
      fun σ'' H'' ⟨m', ee, hx, l1, l2, l3, l4⟩ => ⟨k, by omega, by omega, m', ee, hx, l1, l2, l3, by omega, by rw [show s.len - (i + 1) = k by omega]; exact l4⟩, fun x H'' hy => ?_⟩
    obtain ⟨z1, z2, z3⟩ := j2 x H'' hy
    split at c5
    · cases c5
    rename_i e2' he2
    refine ⟨m', ee, hx, d, e2', z2, c3.ext z1, z3, he2, fun σ2 s1 _ => ?_⟩
    split at c5
    · rename_i e3 h3 hb
      exact ⟨m', e2', hx, .next, e3, h3, z2, s1, hb, fun m3 H3 σ3 x3 y3 w3 => ⟨m3, e3, h3, c1.trans (z1.trans x3), y3, w3, c5⟩⟩
    · rename_i e3 h3 hb
      exact ⟨m', e2', hx, .cont, e3, h3, z2, s1, hb, fun m3 H3 σ3 x3 y3 w3 => ⟨m3, e3, h3, c1.trans (z1.trans x3), y3, w3, c5⟩⟩
    · rename_i e3 h3 hb
      cases c5
      exact ⟨m', e2', hx, .brk, _, _, z2, s1, hb, fun m3 H3 σ3 x3 y3 w3 => a4 m3 H3 σ3 (x1.trans (c1.trans (z1.trans x3))) y3 w3⟩
    · rename_i n1 n2 n3
      refine ⟨m', e2', hx, f, e', h', z2, s1, c5, fun m3 H3 σ3 x3 y3 w3 => ?_⟩
      have q := a4 m3 H3 σ3 (x1.trans (c1.trans (z1.trans x3))) y3 w3
      cases f with
      | next => exact absurd c5 (n1 _ _)
      | cont => exact absurd c5 (n2 _ _)
      | brk => exact absurd c5 (n3 _ _)
      | _ => exact q
theorem while_tS {t : M Bool} {b : MS} {n : Nat} (h : tS G (whileL t b n) K σ H) : tWhile (tG G relB t) (tS G b) K σ H := by
  obtain ⟨m, e, hh, f, e', h', a1, a2, a3, a4⟩ := h
  refine ⟨fun n σ' H' => ∃ m' ee hx, Ext m H m' H' ∧ G.H m' hx H' ∧ EnvR G m' H' ee σ' ∧ whileL t b n ee hx = some (f, e', h'), ⟨n, m, e, hh, Ext.refl _ _, a1, a2, a3⟩, ?_⟩
  rintro n σ' H' ⟨m', ee, hx, c1, c2, c3, c4⟩
  cases n with
  | zero => cases c4
  | succ r =>
    unfold whileL at c4
    rcases withM_some c4 with ⟨c, p, e1, rfl, rfl⟩ | ⟨c, h1, e1, e2⟩
    · exact ⟨m', _, hx, _, h', c2, c3, e1, fun m2 H2 x y cv d q => a4 m2 H2 σ' (c1.trans x) y (c3.ext x) cv d q⟩
    refine ⟨m', ee, hx, _, h1, c2, c3, e1, fun m1 H1 x1 y1 c' hc => ?_⟩
    cases (show c = c' from hc)
    cases c with
    | false =>
      cases e2
      exact a4 m1 H1 σ' (c1.trans x1) y1 (c3.ext x1)
    | true =>
      refine ⟨fun σ' H' => ∃ m' ee hx, Ext m H m' H' ∧ G.H m' hx H' ∧ EnvR G m' H' ee σ' ∧ whileL t b r ee hx = some (f, e', h'), fun σ2 H2 w => ⟨r, Nat.lt_succ_self r, w⟩, ?_⟩
      have e2 : (match b ee h1 with
        | some (.next, e2, h2) => whileL t b r e2 h2
        | some (.cont, e2, h2) => whileL t b r e2 h2
        | some (.brk, e2, h2) => some (.next, e2, h2)
        | r => r) = some (f, e', h') := e2
      split at e2
      · rename_i e3 h3 hb
        exact ⟨m1, ee, h1, .next, e3, h3, y1, c3.ext x1, hb, fun m3 H3 σ3 x3 y3 w3 => ⟨m3, e3, h3, c1.trans (x1.trans x3), y3, w3, e2⟩⟩
      · rename_i e3 h3 hb
        exact ⟨m1, ee, h1, .cont, e3, h3, y1, c3.ext x1, hb, fun m3 H3 σ3 x3 y3 w3 => ⟨m3, e3, h3, c1.trans (x1.trans x3), y3, w3, e2⟩⟩
      · rename_i e3 h3 hb
        cases e2
        exact ⟨m1, ee, h1, .brk, _, _, y1, c3.ext x1, hb, fun m3 H3 σ3 x3 y3 w3 => a4 m3 H3 σ3 (c1.trans (x1.trans x3)) y3 w3⟩
      · rename_i n1 n2 n3
        refine ⟨m1, ee, h1, f, e', h', y1, c3.ext x1, e2, fun m3 H3 σ3 x3 y3 w3 => ?_⟩
        have q := a4 m3 H3 σ3 (c1.trans (x1.trans x3)) y3 w3
        cases f with
        | next => exact absurd e2 (n1 _ _)
        | cont => exact absurd e2 (n2 _ _)
        | brk => exact absurd e2 (n3 _ _)
        | _ => exact q
/-- o[i] = v -/
def rSet (G : Pc) : TSet := fun o i v H Q => ∃ m h a b c h', G.H m h H ∧ G.R m H a o ∧ G.R m H b i ∧ G.R m H c v ∧ putAt a b c h = some h' ∧ ∀ m' H', Ext m H m' H' → G.H m' h' H' → Q H'
theorem set_tS {mo mk mv : M D} (h : tS G (setS mo mk mv) K σ H) : tAsg (tG G G.R mv) (gSub (tG G G.R mo) (tG G G.R mk) (rSet G)) K σ H := by
  obtain ⟨m, e, hh, f, e', h', a1, a2, a3, a4⟩ := h
  rcases withM_some a3 with ⟨c, p, e1, rfl, rfl⟩ | ⟨v, h1, e1, e2⟩
  · exact ⟨m, _, hh, _, h', a1, a2, e1, fun m' H' x y cv d q => a4 m' H' σ x y (a2.ext x) cv d q⟩
  refine ⟨m, e, hh, _, h1, a1, a2, e1, fun m1 H1 x1 y1 vv gv => ?_⟩
  rcases withM_some e2 with ⟨c, p, e3, rfl, rfl⟩ | ⟨o, h2, e3, e4⟩
  · exact ⟨m1, _, h1, _, h', y1, a2.ext x1, e3, fun m' H' x y cv d q => a4 m' H' σ (x1.trans x) y ((a2.ext x1).ext x) cv d q⟩
  refine ⟨m1, e, h1, _, h2, y1, a2.ext x1, e3, fun m2 H2 x2 y2 ov go => ?_⟩
  rcases withM_some e4 with ⟨c, p, e5, rfl, rfl⟩ | ⟨k, h3, e5, e6⟩
  · exact ⟨m2, _, h2, _, h', y2, (a2.ext x1).ext x2, e5, fun m' H' x y cv d q => a4 m' H' σ (x1.trans (x2.trans x)) y (((a2.ext x1).ext x2).ext x) cv d q⟩
  refine ⟨m2, e, h2, _, h3, y2, (a2.ext x1).ext x2, e5, fun m3 H3 x3 y3 kv gk => ?_⟩
  obtain ⟨h4, e7, e8⟩ := map_some e6
  cases e8
  exact ⟨m3, h3, o, k, v, h', y3, go.ext x3, gk, (gv.ext x2).ext x3, e7, fun m' H' x y => a4 m' H' σ (x1.trans (x2.trans (x3.trans x))) y ((((a2.ext x1).ext x2).ext x3).ext x)⟩
theorem aug_tS {gi : Int → Int → Bool} {fi : Int → Int → Int} {i : Nat} {M : M D} (hn : notHk G i) (h : tS G (augS (augI gi fi) i M) K σ H) : tAug i (tG G G.R M) (ipG gi fi) K σ H := by
  obtain ⟨m, e, hh, f, e', h', a1, a2, a3, a4⟩ := h
  rcases withM_some a3 with ⟨c, p, e1, rfl, rfl⟩ | ⟨x, h1, e1, e2⟩
  · unfold var at e1
    split at e1 <;> cases e1
  unfold var at e1
  split at e1
  · rename_i d ed
    cases e1
    obtain ⟨xv, g1, g2⟩ := a2.get hn ed
    refine ⟨xv, g1, ?_⟩
    rcases withM_some e2 with ⟨c, p, e3, rfl, rfl⟩ | ⟨y, h2, e3, e4⟩
    · exact ⟨m, _, hh, _, h', a1, a2, e3, fun m' H' x y cv d q => a4 m' H' σ x y (a2.ext x) cv d q⟩
    refine ⟨m, e, hh, _, h2, a1, a2, e3, fun m1 H1 x1 y1 yv gy => ?_⟩
    rcases withM_some e4 with ⟨c, p, e5, rfl, rfl⟩ | ⟨z, h3, e5, e6⟩
    · unfold lift at e5
      split at e5 <;> cases e5
    obtain ⟨z', e7, e8⟩ := lift_some e5
    cases e7
    cases e6
    have gx := g2.ext x1
    unfold augI at e8
    split at e8
    · split at e8
      · rename_i hg
        cases e8
        exact ⟨_, _, gx, gy, hg, a4 m1 H1 _ x1 y1 ((a2.ext x1).set hn rfl)⟩
      · cases e8
    · cases e8
  · cases e1
theorem raise_tS {c : Nat} {M : M D} (h : tS G (raiS c M) K σ H) : tMkX (G.cls c) (G.fld c) (tG G G.Rs (args [M])) σ H fun cls d H' => G.W cls d σ H' := by
  obtain ⟨m, e, hh, f, e', h', a1, a2, a3, a4⟩ := h
  rcases withM_some a3 with ⟨c', p, e1, rfl, rfl⟩ | ⟨p, h1, e1, e2⟩
  · refine ⟨m, _, hh, .ex c' p, h', a1, a2, ?_, fun m' H' x y cv d q => a4 m' H' σ x y (a2.ext x) cv d q⟩
    show bnd M _ _ _ = _
    unfold bnd
    rw [e1]
  · cases e2
    refine ⟨m, e, hh, .ok [p], h', a1, a2, ?_, fun m1 H1 x1 y1 vs gv => ?_⟩
    · show bnd M _ _ _ = _
      unfold bnd
      rw [e1]
      rfl
    obtain ⟨v, r, rfl, g1, g2⟩ := gv
    cases (show r = [] from g2)
    refine ⟨v, rfl, fun d hd => ?_⟩
    obtain ⟨b1, b2⟩ := y1.imm (o := .xd [(G.fld c, v)]) hd
    exact a4 m1 _ σ (x1.trans b2) b1 (a2.ext (x1.trans b2)) _ _ ⟨rfl, d, v, rfl, upd_same, g1.ext b2⟩
/-- in a suite -/
def Pc.suite (G : Pc) (hk : Option (Nat × Addr × Addr × Str)) : Pc := { G with W := fun _ _ _ _ => False, hk := hk }
def Pc.wish (G : Pc) (W : WX) : Pc := { G with W := W }
theorem EnvR.toHk {m : List Addr} {e : DE} {i : Nat} {a dd : Addr} {fl : Str} {p : D} {u : V} (hk : G.hk = none) (h : EnvR G m H e σ) (hd : H dd = some (.xd [(fl, u)])) (g : G.R m H p u) :
    EnvR (G.suite (some (i, a, dd, fl))) m H (e.set i (some p)) (σ.set i (some (.ref a))) := by
  refine ⟨by rw [List.length_set, List.length_set]; exact h.len, fun j x q => ?_⟩
  unfold SlotR
  show if j = i then _ else _
  by_cases hj : j = i
  · subst hj
    have hl : j < e.length := by
      have := (List.getElem?_eq_some_iff.mp q).1
      rwa [List.length_set] at this
    rw [List.getElem?_set_self hl] at q
    cases q
    rw [if_pos rfl, List.getElem?_set_self (by rw [← h.len]; exact hl)]
    exact ⟨rfl, u, hd, g⟩
  · rw [if_neg hj]
    rw [List.getElem?_set_ne (fun z => hj z.symm)] at q ⊢
    have z := h.slot j x q
    unfold SlotR at z
    rw [hk] at z
    exact z
theorem EnvR.ofHk {m : List Addr} {e : DE} {i : Nat} {a dd : Addr} {fl : Str} (hk : G.hk = none) (h : EnvR (G.suite (some (i, a, dd, fl))) m H e σ) : EnvR G m H (e.set i none) (σ.set i none) := by
  refine ⟨by rw [List.length_set, List.length_set]; exact h.len, fun j x q => ?_⟩
  unfold SlotR
  rw [hk]
  by_cases hj : j = i
  · subst hj
    have hl : j < e.length := by
      have := (List.getElem?_eq_some_iff.mp q).1
      rwa [List.length_set] at this
    rw [List.getElem?_set_self hl] at q
    cases q
  · rw [List.getElem?_set_ne (fun z => hj z.symm)] at q ⊢
    have z := h.slot j x q
    unfold SlotR at z
    have z : if j = i then _ else _ := z
    rw [if_neg hj] at z
    exact z
theorem EnvR.wish {m : List Addr} {e : DE} {W : WX} (h : EnvR G m H e σ) : EnvR (G.wish W) m H e σ := ⟨h.len, h.slot⟩
theorem EnvR.unwish {m : List Addr} {e : DE} {W : WX} (h : EnvR (G.wish W) m H e σ) : EnvR G m H e σ := ⟨h.len, h.slot⟩
theorem EnvR.toS {m : List Addr} {e : DE} (hk : G.hk = none) (h : EnvR G m H e σ) : EnvR (G.suite none) m H e σ := ⟨h.len, fun i d q => by
  have z := h.slot i d q
  unfold SlotR at z ⊢
  rw [hk] at z
  exact z⟩
theorem EnvR.ofS {m : List Addr} {e : DE} (hk : G.hk = none) (h : EnvR (G.suite none) m H e σ) : EnvR G m H e σ := ⟨h.len, fun i d q => by
  have z := h.slot i d q
  unfold SlotR
  rw [hk]
  exact z⟩
theorem noEx_some {r : Option (Fl × DE × DH)} {f : Fl} {e : DE} {h : DH} (q : noEx r = some (f, e, h)) : r = some (f, e, h) ∧ ∀ c p, f ≠ .ex c p := by
  unfold noEx at q
  split at q
  · cases q
  · rename_i hn
    exact ⟨q, fun c p z => by subst z; exact hn _ _ _ _ q⟩
/-- the suite by what is caught -/
def tSuite (G : Pc) (c : Nat) (i : Option Nat) (s : MS) : Addr → Value → Option Addr → TS := fun a cls d K σ H =>
  ∃ dd, d = some dd ∧ cls = .ref (G.cls c) ∧ tS (G.suite (i.map fun j => (j, a, dd, G.fld c))) s K σ H
theorem try_tS {c i : Nat} {b s : MS} (hk : G.hk = none) (te : PySem.W.exmOne G.K (.ref (G.cls c)) (.ref (G.cls c)) = some true) (h : tS G (tryS b c (some i) s) K σ H) :
    tS (G.wish (wAs G.K (.ref (G.cls c)) i (tSuite G c (some i) s) G.W K)) b K σ H := by
  obtain ⟨m, e, hh, f, e', h', a1, a2, a3, a4⟩ := h
  unfold tryS at a3
  split at a3
  · rename_i c' p e1 h1 hb
    split at a3
    · rename_i hc
      subst hc
      dsimp only at a3
      split at a3
      · rename_i f2 e2 h2 hs
        cases a3
        obtain ⟨hs, nex⟩ := noEx_some hs
        refine ⟨m, e, hh, _, e1, h1, a1, a2.wish, hb, fun m1 H1 σ1 x1 y1 z1 cv d q => ?_⟩
        obtain ⟨rfl, dd, u, rfl, g1, g2⟩ := q
        refine ⟨true, te, fun _ a ha => ⟨dd, rfl, rfl, m1, e1.set i (some p), h1, f, e2, h', y1, z1.unwish.toHk hk g1 g2, hs, fun m2 H2 σ2 x2 y2 z2 => ?_⟩, fun z => nomatch z⟩
        have q := a4 m2 H2 _ (x1.trans x2) y2 (z2.ofHk hk)
        cases f with
        | ex c p => exact absurd rfl (nex c p)
        | _ => exact q
      · cases a3
    · cases a3
  · rename_i hn
    refine ⟨m, e, hh, f, e', h', a1, a2.wish, a3, fun m1 H1 σ1 x1 y1 z1 => ?_⟩
    have q := a4 m1 H1 σ1 x1 y1 z1.unwish
    cases f with
    | ex c p => exact absurd a3 (hn _ _ _ _)
    | _ => exact q
theorem try0_tS {c : Nat} {b s : MS} (hk : G.hk = none) (te : PySem.W.exmOne G.K (.ref (G.cls c)) (.ref (G.cls c)) = some true) (h : tS G (tryS b c none s) K σ H) :
    tS (G.wish (wOnly G.K (.ref (G.cls c)) (tSuite G c none s) G.W K)) b K σ H := by
  obtain ⟨m, e, hh, f, e', h', a1, a2, a3, a4⟩ := h
  unfold tryS at a3
  split at a3
  · rename_i c' p e1 h1 hb
    split at a3
    · rename_i hc
      subst hc
      dsimp only at a3
      obtain ⟨hs, nex⟩ := noEx_some a3
      refine ⟨m, e, hh, _, e1, h1, a1, a2.wish, hb, fun m1 H1 σ1 x1 y1 z1 cv d q => ?_⟩
      obtain ⟨rfl, dd, u, rfl, g1, g2⟩ := q
      refine ⟨true, te, fun _ a ha => ⟨dd, rfl, rfl, m1, e1, h1, f, e', h', y1, z1.unwish.toS hk, hs, fun m2 H2 σ2 x2 y2 z2 => ?_⟩, fun z => nomatch z⟩
      have q := a4 m2 H2 _ (x1.trans x2) y2 (z2.ofS hk)
      cases f with
      | ex c p => exact absurd rfl (nex c p)
      | _ => exact q
    · cases a3
  · rename_i hn
    refine ⟨m, e, hh, f, e', h', a1, a2.wish, a3, fun m1 H1 σ1 x1 y1 z1 => ?_⟩
    have q := a4 m1 H1 σ1 x1 y1 z1.unwish
    cases f with
    | ex c p => exact absurd a3 (hn _ _ _ _)
    | _ => exact q
end
end Dd

set_option Elab.async false
set_option linter.all false
set_option maxRecDepth 100000
set_option maxHeartbeats 4000000
namespace Dd
open PySem PySem.Spec PyProof.Rows L2

/-! # 25. Every statement of the semantics is walked -/
section
variable {X : Cx} {C : CE} {G : Pc} {F : Call} {S : Sm}
theorem set_any (f : Fit X C G F) : PSet X (rSet G) := by
  have hu := f.un
  obtain ⟨K, W, cls, fld, Wx, hk⟩ := G
  have hK : X.K = K := f.K
  have hw : X.w = W := f.w
  subst hK hw
  intro pins s σ H o i v ov iv u Q I ro ri rv ⟨m, h, a, b, c, h', a1, ga, gb, gc, e, q⟩
  have dict : ∀ {H'}, (∃ p, o = .ref p ∧ DPut H p i v H') → Q H' → wpAny (model X.prog X.w) X.A (setItem ov iv u) (fun _ s' => ∃ H', Inv X pins σ H' s' ∧ Q H') X.xe s := by
    rintro H' ⟨p, rfl, g⟩ q
    cases (show ov = Value.ref p from ro)
    exact d_setItem (by omega) I g ri rv fun s' I' => ⟨H', I', q⟩
  cases a with
  | ref j =>
    obtain ⟨p, mp, rfl⟩ := ga
    unfold putAt at e
    dsimp only at e
    split at e
    · rename_i xs k ex
      split at e
      · rename_i n hn
        cases e
        obtain ⟨ob, h1, vs, rfl, gv⟩ := a1.get mp ex
        obtain ⟨b1, b2⟩ := a1.write (ob := .lst (xs.set n c)) (o := .lst (vs.set n v)) mp ⟨_, rfl, gv.set n gc⟩
        exact set_list pins s σ H _ _ _ ov iv u Q I ro ri rv ⟨p, vs, k, n, rfl, gb, h1, by rw [gv.length]; exact hn, q m _ b2 b1⟩
      · cases e
    · rename_i kvs ex
      split at e
      · rename_i kk hkk
        split at e
        · rename_i hz
          cases e
          obtain ⟨vs, h1, gv⟩ := ref_dk a1 mp ex
          obtain ⟨b1, b2⟩ := a1.write (ob := .dk (putD kvs kk c)) (o := .dK (putK vs kk v)) mp ⟨_, rfl, KV_put kk gv gc⟩
          exact dict ⟨p, rfl, .inl ⟨vs, kk, h1, keyD_rel hkk gb, by rw [KV_len gv, ← Z_eq]; exact hz, rfl⟩⟩ (q m _ b2 b1)
        · cases e
      · cases e
    · rename_i kvs ks ex
      split at e
      · rename_i kk hkk
        split at e
        · rename_i hz
          cases e
          obtain ⟨vs, h1, gv⟩ := ref_dt a1 mp ex
          obtain ⟨bp, bs, rfl, hb, gbs⟩ := gb
          obtain ⟨b1, b2⟩ := a1.write (ob := .dt (putD kvs kk c)) (o := .dT (putK vs kk v)) mp ⟨_, rfl, KV_put kk gv gc⟩
          exact dict ⟨p, rfl, .inr ⟨vs, kk, bp, h1, rfl, by rw [hb, keysD_rel hkk gbs], by rw [KV_len gv, ← Z_eq]; exact hz, rfl⟩⟩ (q m _ b2 b1)
        · cases e
      · cases e
    · cases e
  | _ => cases e
theorem Fit.tr (f : Fit X C G F) (hc : C.hk = none) {W : WX} {pn : List (Addr × Obj)} {xe : Value → Shared → Prop} (tk : Takes (X.tr pn xe) W) (ps : PassesOwn (model X.prog X.w) X.A X.env xe) : Fit (X.tr pn xe) C (G.wish W) F where
  N := f.N
  nd := f.nd
  sc := f.sc
  calm := f.calm
  fn := f.fn
  K := f.K
  w := f.w
  tk := tk
  pass := ps
  un := f.un
  gd := f.gd
  blt := f.blt
  con := f.con
  fns := f.fns
  own := f.own
  exc := f.exc
  excF := f.excF
  room := f.room
  hkc := f.hkc
  hk0 := f.hk0
  hk1 := fun i c h => nomatch hc.symm.trans h
theorem Fit.suite (f : Fit X C G F) {a dd : Addr} {oe : Obj} {cls : Value} {c i : Nat} {x : Str} {pn : List (Addr × Obj)} (hz : Zc cls (some dd) oe) (hf : ∃ vs, oe.data = .fields vs) (hc : cls = .ref (G.cls c)) (hx : ExcT X.K X.mg x (G.fld c) (G.cls c)) :
    Fit (X.suite a ((a, oe) :: pn)) { C with calm := false, hk := some (i, c) } (G.suite (some (i, a, dd, G.fld c))) F where
  N := f.N
  nd := f.nd
  sc := f.sc
  calm := rfl
  fn := f.fn
  K := f.K
  w := f.w
  tk := takes0
  pass := PassesOwn.never
  un := f.un
  gd := f.gd
  blt := f.blt
  con := f.con
  fns := fun h => nomatch (show false = true from h)
  own := f.own
  exc := f.exc
  excF := f.excF
  room := fun h => nomatch (show false = true from h)
  hkc := fun h => nomatch (show false = true from h)
  hk0 := fun h => nomatch (show some (i, c) = none from h)
  hk1 := by
    intro i' c' h
    cases (show some (i, c) = some (i', c') from h)
    refine ⟨a, dd, rfl, fun e j pos he hb => ?_⟩
    refine PE.of (hx.rd X rfl rfl a oe cls (some dd) pn e _ pos hz hf he hb) fun σ H Q q => ?_
    obtain ⟨v, e1, e2, u, e3, e4⟩ := q
    exact ⟨v, e1, e2, hc, dd, u, rfl, e3, e4⟩
theorem Fit.suite0 (f : Fit X C G F) {a : Addr} {pn : List (Addr × Obj)} : Fit (X.suite a pn) { C with calm := false, hk := none } (G.suite none) F where
  N := f.N
  nd := f.nd
  sc := f.sc
  calm := rfl
  fn := f.fn
  K := f.K
  w := f.w
  tk := takes0
  pass := PassesOwn.never
  un := f.un
  gd := f.gd
  blt := f.blt
  con := f.con
  fns := fun h => nomatch (show false = true from h)
  own := f.own
  exc := f.exc
  excF := f.excF
  room := fun h => nomatch (show false = true from h)
  hkc := fun h => nomatch (show false = true from h)
  hk0 := fun h => rfl
  hk1 := fun i c h => nomatch (show none = some (i, c) from h)
/-- try -/
theorem s_try (hB : OkB S F) (f : Fit X C G F) (body : List Stmt) (x : Str) (n : Option Str) (su : List Stmt) (np pos' pos : Pos) : PS X (.Try body [.ExceptHandler (some (.Name x np)) n su pos'] [] [] pos) (tS G (tryE S C body x n su)) := by
  have nv : ∀ {s : Stmt}, PS X s (tS G stuckS) := PS.never fun D σ H h => tS_stuck h
  unfold tryE
  split
  · rename_i hh
    simp only [Bool.and_eq_true] at hh
    obtain ⟨⟨⟨h1, h2⟩, h3⟩, h4⟩ := hh
    obtain ⟨g1, g2⟩ := f.glb h3
    have hkc := f.hkc h1
    obtain ⟨o1, o2⟩ := f.own h2
    cases su with
    | nil => cases h4
    | cons b0 su =>
      split
      · rename_i c hc
        have ex := f.exc x c hc
        have nm : Names X x (.ref (G.cls c)) := ⟨g1, (plain_ne g2).1, .inl ex.gC⟩
        have te := ex.te
        rw [f.K] at te
        cases n with
        | some n =>
          dsimp only
          split
          · rename_i i hl hi
            refine PS.of (ps_try_as (i := i) (ts := tSuite G c (some i) (S.B { C with calm := false, hk := some (i, c) } (b0 :: su))) (tb := fun W => tS (G.wish W) (S.B C body)) o1 o2 (by rw [f.N]; exact f.nd) (by rw [f.N]; exact ixOf_get hi)
              (show X.env.scope.names.lookup n = some .local from by rw [f.sc]; exact hl) nm f.tk (fun W pn xe tk ps => hB _ _ _ (f.tr hkc tk ps) body) (fun a oe cls d pn hz hf => ?_)) fun D σ H h => ?_
            · refine ⟨fun pins s σ H D I q => ?_⟩
              obtain ⟨dd, rfl, hcl, q⟩ := q
              exact (hB _ _ _ (f.suite (i := i) hz hf hcl ex) (b0 :: su)).run pins s σ H D I q
            · have z := try_tS (f.hk0 hkc) te h
              rw [← f.K] at z
              exact z
          · exact nv
        | none =>
          dsimp only
          refine PS.of (ps_try_only (ts := tSuite G c none (S.B { C with calm := false, hk := none } (b0 :: su))) (tb := fun W => tS (G.wish W) (S.B C body)) o1 o2 nm f.tk (fun W pn xe tk ps => hB _ _ _ (f.tr hkc tk ps) body)
            (fun a oe cls d pn hz hf => ?_)) fun D σ H h => ?_
          · refine ⟨fun pins s σ H D I q => ?_⟩
            obtain ⟨dd, rfl, hcl, q⟩ := q
            exact (hB _ _ _ (f.suite0 (a := a) (pn := (a, oe) :: pn)) (b0 :: su)).run pins s σ H D I q
          · have z := try0_tS (f.hk0 hkc) te h
            rw [← f.K] at z
            exact z
      · exact nv
  · exact nv
theorem sw_none {e : Expr} (h : isComp e = false) (l : Nat) (env : Env) : swapsWith e none l env = pure false := by
  cases e <;> first | rfl | cases h
theorem sw_name {e : Expr} (h : isComp e = false) (t : Option Expr) (l : Nat) (env : Env) : swapsWith e t l env = pure false := by
  cases e <;> first | rfl | cases h
theorem ok_B (hS : OkS S F) (h0 : OkS (stepQ F S) F → True) : OkB (stepQ F S) F := by
  intro X C G f st
  show PSs X st (tS G (stepB S C st))
  induction st with
  | nil => exact PSs.of pss_nil fun D σ H h => skip_tS h
  | cons s r ih => exact PSs.of (pss_cons (hS X C G f s) ih) fun D σ H h => seq_tS h
theorem lc_other {elt : Expr} {gens : List Comprehension} {sc : Scope} {cp : Pos} (h : ¬ ∃ tg it ifs, gens = [⟨tg, it, ifs, 0⟩]) : stepE F S C (.ListComp elt gens sc cp) = stuck := by
  unfold stepE
  split <;> first
    | rfl
    | (rename_i e; injection e with e1 e2; exact absurd ⟨_, _, _, e2⟩ h)
    | (rename_i e; cases e)
theorem dc_other {k v : Expr} {gens : List Comprehension} {sc : Scope} {cp : Pos} (h : ¬ ∃ tg it, gens = [⟨tg, it, [], 0⟩]) : stepE F S C (.DictComp k v gens sc cp) = stuck := by
  unfold stepE
  split <;> first
    | rfl
    | (rename_i e; injection e with e1 e2 e3; exact absurd ⟨_, _, e3⟩ h)
    | (rename_i e; cases e)
/-- name = value -/
theorem s_name (hE : OkE S F) (hT : OkT S F) (hI : OkI S F) (f : Fit X C G F) {e : Expr} {tg : Expr} {i : Nat} (hi : nmIx C tg = some i) (pos : Pos) (iE' : PE X e (tG G G.R (stepE F S C e))) :
    PS X (.Assign [tg] e pos) (tS G (asg (.nm i) (if isComp e then stepE F S C e else S.E C e))) := by
  obtain ⟨x, p, rfl, hl, hk⟩ := nmIx_some hi
  obtain ⟨a1, a2, a3⟩ := f.loc hl
  have nd : X.N.Nodup := by rw [f.N]; exact f.nd
  have hn := f.noHk hk
  have iE := hE X C G f
  have nv : ∀ {s : Stmt} {t : Tg}, PS X s (tS G (asg t (stuck : M D))) := PS.never fun D σ H h => by
    obtain ⟨m, e, hh, f, e', h', b1, b2, b3, b4⟩ := h
    cases b3
  cases hc : isComp e with
  | false =>
    exact PS.of (ps_set nd a1 a2 (iE e) (sw_name hc _ _ _) a3) fun D σ H h => asgN_tS hn h
  | true =>
    cases e <;> first | (cases hc; done) | skip
    · rename_i elt gens sc cp
      by_cases hg : ∃ tg it ifs, gens = [⟨tg, it, ifs, 0⟩]
      · obtain ⟨tg', it, ifs, rfl⟩ := hg
        have hsw : swapsWith (.ListComp elt [⟨tg', it, ifs, 0⟩] sc cp) (some (.Name x p)) pos.line X.env = pure (X.env.blockKind == .function && X.env.kindOf x == some .local && p.line == cp.line && !(sc.names.any fun (n, k) => n == x && (k == .local || k == .cell))) := rfl
        cases hb : (X.env.blockKind == .function && X.env.kindOf x == some .local && p.line == cp.line && !(sc.names.any fun (n, k) => n == x && (k == .local || k == .cell))) with
        | false => rw [hb] at hsw; exact PS.of (ps_set nd a1 a2 iE' hsw a3) fun D σ H h => asgN_tS hn h
        | true =>
          rw [hb] at hsw
          simp only [Bool.and_eq_true] at hb
          exact PS.of (s_lc hE hT hI f a1 (eq_of_beq hb.1.1.2) hsw) fun D σ H h => asgN_tS hn h
      · rw [lc_other hg]
        exact nv
    · exact nv
    · rename_i kx vx gens sc cp
      by_cases hg : ∃ tg it, gens = [⟨tg, it, [], 0⟩]
      · obtain ⟨tg', it, rfl⟩ := hg
        have hsw : swapsWith (.DictComp kx vx [⟨tg', it, [], 0⟩] sc cp) (some (.Name x p)) pos.line X.env = pure (X.env.blockKind == .function && X.env.kindOf x == some .local && p.line == cp.line && !(sc.names.any fun (n, k) => n == x && (k == .local || k == .cell))) := rfl
        cases hb : (X.env.blockKind == .function && X.env.kindOf x == some .local && p.line == cp.line && !(sc.names.any fun (n, k) => n == x && (k == .local || k == .cell))) with
        | false => rw [hb] at hsw; exact PS.of (ps_set nd a1 a2 iE' hsw a3) fun D σ H h => asgN_tS hn h
        | true =>
          rw [hb] at hsw
          simp only [Bool.and_eq_true] at hb
          exact PS.of (s_dc hE hI f a1 (eq_of_beq hb.1.1.2) hsw) fun D σ H h => asgN_tS hn h
      · rw [dc_other hg]
        exact nv
end
end Dd

set_option Elab.async false
set_option linter.all false
set_option maxRecDepth 100000
set_option maxHeartbeats 4000000
namespace Dd
open PySem PySem.Spec PyProof.Rows L2

section
variable {X : Cx} {C : CE} {G : Pc} {F : Call} {S : Sm}
theorem tg_sub {o k e : Expr} {p : Pos} (l : Nat) (env : Env) : swapsWithSole [.Subscript o k p] e l env = pure false ∧ swappedStores [.Subscript o k p] e env = pure none := by
  refine ⟨?_, ?_⟩
  · show swapsWith e (some (.Subscript o k p)) l env = pure false
    cases e <;> rfl
  · cases e <;> rfl
theorem tg_tup {es : List Expr} {k : Nat} {e : Expr} {p : Pos} (h : isTupE e = false) (hc : isComp e = false) (l : Nat) (env : Env) : swapsWithSole [.Tuple es k p] e l env = pure false ∧ swappedStores [.Tuple es k p] e env = pure none := by
  refine ⟨?_, ?_⟩
  · show swapsWith e (some (.Tuple es k p)) l env = pure false
    exact sw_name hc _ _ _
  · cases e <;> first | rfl | cases h
theorem aug_some {op : PySem.Operator} {f : D → D → DH → Option (D × DH)} (h : augD op = some f) : ∃ gi fi, f = augI gi fi ∧ ∀ X : Cx, PIp X op (ipG gi fi) := by
  cases op <;> first | cases h | skip
  · exact ⟨_, _, rfl, fun X pins s σ H x y v u Q I r1 r2 ⟨i, j, e1, e2, _, q⟩ => ip_add pins s σ H x y v u Q I r1 r2 ⟨i, j, e1, e2, q⟩⟩
  · exact ⟨_, _, rfl, fun X pins s σ H x y v u Q I r1 r2 ⟨i, j, e1, e2, _, q⟩ => ip_sub pins s σ H x y v u Q I r1 r2 ⟨i, j, e1, e2, q⟩⟩
  · exact ⟨_, _, rfl, fun X pins s σ H x y v u Q I r1 r2 ⟨i, j, e1, e2, g, q⟩ => iop_shr pins s σ H x y v u Q I r1 r2 ⟨i, j, e1, e2, leI_iff.mp g, q⟩⟩
  · exact ⟨_, _, rfl, fun X pins s σ H x y v u Q I r1 r2 ⟨i, j, e1, e2, _, q⟩ => iop_or pins s σ H x y v u Q I r1 r2 ⟨i, j, e1, e2, q⟩⟩
theorem ok_S (hE : OkE S F) (hT : OkT S F) (hI : OkI S F) (hO : OkO S F) (hB : OkB S F) (hE' : OkE (stepQ F S) F) : OkS (stepQ F S) F := by
  intro X C G f st
  have iE := hE X C G f
  have nd : X.N.Nodup := by rw [f.N]; exact f.nd
  have nv : ∀ {s : Stmt}, PS X s (tS G stuckS) := PS.never fun D σ H h => tS_stuck h
  show PS X st (tS G (stepS F S C st))
  unfold stepS
  split
  · exact PS.of (ps_ret (iE _)) fun D σ H h => ret_tS h
  · refine PS.of ps_retN fun D σ H h => ?_
    obtain ⟨m, e, hh, fl, e', h', a1, a2, a3, a4⟩ := h
    cases a3
    exact a4 m H σ (Ext.refl _ _) a1 a2 _ rfl
  · exact PS.of ps_pass fun D σ H h => skip_tS h
  · refine PS.of ps_break fun D σ H h => ?_
    obtain ⟨m, e, hh, fl, e', h', a1, a2, a3, a4⟩ := h
    cases a3
    exact a4 m H σ (Ext.refl _ _) a1 a2
  · refine PS.of ps_continue fun D σ H h => ?_
    obtain ⟨m, e, hh, fl, e', h', a1, a2, a3, a4⟩ := h
    cases a3
    exact a4 m H σ (Ext.refl _ _) a1 a2
  · exact PS.of ps_doc fun D σ H h => skip_tS h
  · split
    · exact nv
    · rename_i hc
      exact PS.of (ps_expr (iE _) (sw_none (by simpa using hc) _ _)) fun D σ H h => drop_tS h
  · split
    · exact nv
    · rename_i o k p e pos hc
      simp only [Bool.or_eq_true, not_or, Bool.not_eq_true] at hc
      have sub := tg_sub (o := o) (k := k) (e := e) (p := p) pos.line X.env
      refine PS.of (ps_asg (iE e) (pg_sub (iE o) (iE k) (set_any f) ?_) sub.1 sub.2 rfl) fun D σ H h => set_tS h
      intro v
      have := hc.1
      cases k <;> first | rfl | cases this
  · split
    · rename_i tg e pos hn _ t ht
      split
      · exact nv
      · rename_i hc
        simp only [Bool.or_eq_true, Bool.and_eq_true, not_or, not_and, Bool.not_eq_true] at hc
        unfold tgOf at ht
        split at ht
        · obtain ⟨i, e1, e2⟩ := map_some ht
          subst e2
          exact s_name hE hT hI f e1 pos (hE' X C G f e)
        · rename_i es kk tp
          have c2 : isComp e = false := by
            cases hh : isComp e with
            | false => rfl
            | true => exact absurd (hc.2 hh) (by intro z; cases z)
          have c1 : isTupE e = false := hc.1 rfl
          rw [c2]
          have tp' : tgOf C (.Tuple es kk tp) = some t := ht
          have sub := tg_tup (es := es) (k := kk) (p := tp) c1 c2 pos.line X.env
          exact PS.of (ps_asg (iE e) (pg_tg f tp') sub.1 sub.2 rfl) fun D σ H h => asg_tS h
        · cases ht
    · exact nv
  · split
    · rename_i x p op e pos _ _ i g hi hf
      split
      · exact nv
      · rename_i hk
        obtain ⟨gi, fi, rfl, hp⟩ := aug_some hf
        obtain ⟨a1, a2, a3⟩ := f.loc hi
        exact PS.of (ps_aug nd a1 a2 (iE e) (hp X) a3) fun D σ H h => aug_tS (f.noHk (by simpa using hk)) h
    · exact nv
  · exact PS.of (ps_if (hT X C G f _) (hB X C G f _) (hB X C G f _)) fun D σ H h => if_tS h
  · split
    · rename_i hc
      rw [Bool.and_eq_true] at hc
      split
      · rename_i t ht
        exact PS.of (ps_for f.pass (by rw [f.calm]; exact hc.1) (hI X C G f _ _) (pg_tg f ht) (hB X C G f _) (folded (by simpa using hc.2))) fun D σ H h => for_tS h
      · exact nv
    · exact nv
  · exact PS.of (ps_while f.pass (hT X C G f _) (hB X C G f _)) fun D σ H h => while_tS h
  · split
    · rename_i x p a p2 pos hc
      simp only [Bool.and_eq_true] at hc
      obtain ⟨⟨⟨h1, h2⟩, h3⟩, h4⟩ := hc
      obtain ⟨g1, g2⟩ := f.glb h3
      split
      · rename_i c hx
        obtain ⟨k, hr⟩ := f.room h1
        have hall : ([a] : List Expr).all noStar = true := by rw [List.all_cons, h4]; rfl
        exact PS.of (ps_raise (by rw [f.calm]; exact h1) f.tk ((f.exc x c hx).mkx X rfl rfl a _ p p2 k hr (pa_all iE hall) g1 (plain_ne g2).1 h4)) fun D σ H h => raise_tS h
      · exact nv
    · exact nv
  · exact s_try hB f _ _ _ _ _ _ _
  · exact nv
structure OkSm (S : Sm) (F : Call) : Prop where
  E : OkE S F
  T : OkT S F
  W : OkW S F
  O : OkO S F
  I : OkI S F
  St : OkS S F
  B : OkB S F
theorem ok_sem (F : Call) : ∀ n, OkSm (sem F n) F
  | 0 => by
    refine ⟨fun X C G f e => PE.never fun σ H Q h => tG_stuck h, fun X C G f e => PT.never fun σ H Q h => tG_stuck h, fun X C G f op es p => PW.never fun σ H Q h => tG_stuck h, fun X C G f o => ⟨fun pins s σ H Q I q => (tG_stuck q).elim⟩,
      fun X C G f tg e => ⟨fun pins s σ H R I q => ?_⟩, fun X C G f st => PS.never fun D σ H h => tS_stuck h, fun X C G f st => ⟨fun pins s σ H D I q => (tS_stuck q).elim⟩⟩
    obtain ⟨m, e0, hh, r, h', a1, a2, a3, a4⟩ := q
    cases a3
  | n + 1 => by
    have ih := ok_sem F n
    have e := ok_E ih.E ih.T ih.I ih.O
    have w := ok_W ih.T ih.W
    exact ⟨e, ok_T ih.E ih.T w, w, ok_O ih.E, ok_I ih.E, ok_S ih.E ih.T ih.I ih.O ih.B e, ok_B ih.St (fun _ => trivial)⟩
end
end Dd

set_option Elab.async false
set_option linter.all false
set_option maxRecDepth 100000
set_option maxHeartbeats 4000000
namespace Dd
open PySem PySem.Spec PyProof.Rows L2

/-! # 26. Every def of the program does what the plain program does -/
structure Lk (w : World) (K : PySem.W.Frag) (mg : Str → Option Value) (p : Pg) (cls : Nat → Addr) (fld : Nat → Str) : Prop where
  fns : ∀ (k : Nat) (f : Fn), p.fns[k]? = some f → ∃ (a : Addr) (fd : FuncData) (st : Stmt), mg f.name = some (.ref a) ∧ PySem.W.keepIn K (.ref a) = true ∧ Fun K f.name f.name st a fd ∧ FnScope f.N f.ps (defScope st) ∧ Binds K fd f.ps [] ∧ f.sc = defScope st ∧ f.body = defBody st
  blt : ∀ x ∈ bltNms, mg x = none
  con : ∀ x d, p.con.lookup x = some d → ∃ u v, mg x = some u ∧ RelV v u ∧ ∀ m H, RelD K w m H d v
  exc : ∀ x c, exIx x p.exc 0 = some c → ExcT K mg x (fld c) (cls c)
  excF : ∀ c x f, p.exc[c]? = some (x, f) → f = fld c
theorem fnIx_get {x : Str} : ∀ {l : List (Str × Nat)} {k i ar : Nat}, fnIx x l k = some (i, ar) → ∃ j, i = k + j ∧ l[j]? = some (x, ar)
  | [], _, _, _, h => by cases h
  | (y, a) :: r, k, i, ar, h => by
    unfold fnIx at h
    split at h
    · rename_i e
      cases h
      exact ⟨0, rfl, by rw [e]; rfl⟩
    · obtain ⟨j, e1, e2⟩ := fnIx_get h
      exact ⟨j + 1, by omega, e2⟩
theorem start_env {G : Pc} {m : List Addr} {H : Hp} (hk : G.hk = none) {N : List Str} : ∀ {ds : List D} {vs : List V}, G.Rs m H ds vs → EnvR G m H (startD N ds) (L2.start N vs) := by
  intro ds vs g
  have hl : vs.length = ds.length := RelDs.length g
  refine ⟨?_, fun i d q => ?_⟩
  · unfold startD L2.start
    rw [List.length_append, List.length_append, List.length_map, List.length_map, hl, List.length_replicate, List.length_replicate]
  · unfold SlotR
    rw [hk]
    show ∃ v, (L2.start N vs)[i]? = some (some v) ∧ G.R m H d v
    unfold startD at q
    by_cases hi : i < ds.length
    · rw [List.getElem?_append_left (by rw [List.length_map]; exact hi), List.getElem?_map] at q
      obtain ⟨d', e1, e2⟩ := map_some q
      cases e2
      obtain ⟨v, e3, e4⟩ := RelDs.get g e1
      refine ⟨v, ?_, e4⟩
      unfold L2.start
      rw [List.getElem?_append_left (by rw [List.length_map, hl]; exact hi), List.getElem?_map, e3]
      rfl
    · rw [List.getElem?_append_right (by rw [List.length_map]; omega)] at q
      rw [List.getElem?_replicate] at q
      split at q <;> cases q
section
variable {P : Program} {w : World} {K : PySem.W.Frag} {mg : Str → Option Value} {base : Heap} {p : Pg} {cls : Nat → Addr} {fld : Nat → Str}
def pcOf (K : PySem.W.Frag) (w : World) (cls : Nat → Addr) (fld : Nat → Str) (W : WX) : Pc := ⟨K, w, cls, fld, W, none⟩
theorem fit_def (L : Lk w K mg p cls fld) {f : Fn} {n : Nat} {F : Call} {st : Stmt} {fa : Addr} {cdv : Value} {A : Around} {outer : List Env} {s : Shared} {H : Hp} {E : XK} (S : FnScope f.N f.ps (defScope st)) (hsc : f.sc = defScope st)
    (hr : Room n (A.deeper (envOfC f.name (defScope st) s.heap.objs.size fa cdv))) (hg : A.guards = some [])
    (ih : ∀ (k : Nat) (g : Fn) (a : Addr), p.fns[k]? = some g → mg g.name = some (.ref a) → FnG P w K mg base n a (spF (pcOf K w cls fld fun _ _ _ _ => False) F k)) :
    Fit (cxOf (L2.CX P w) P w K mg base f.N f.name (defScope st) fa cdv A outer s H E) (p.ce f) (pcOf K w cls fld fun cv d _ H => E cv d H) F where
  N := rfl
  nd := S.nd
  sc := hsc.symm
  calm := rfl
  fn := fun x _ => rfl
  K := rfl
  w := rfl
  tk := takes_of rfl rfl rfl rfl
  pass := passes_of rfl
  un := by
    have := hr.un
    show (A.deeper (envOfC f.name (defScope st) s.heap.objs.size fa cdv)).units + 100 < cLine
    omega
  gd := hg
  blt := L.blt
  con := L.con
  fns := by
    intro _ x i ar h
    obtain ⟨j, e1, e2⟩ := fnIx_get h
    rw [Nat.zero_add] at e1
    subst e1
    have e2 : (p.fns.map fun g => (g.name, g.ps.length))[i]? = some (x, ar) := e2
    rw [List.getElem?_map] at e2
    obtain ⟨g, e3, e4⟩ := map_some e2
    cases e4
    obtain ⟨a, fd, st', h1, h2, _⟩ := L.fns i g e3
    exact ⟨a, n, h1, h2, hr, ih i g a e3 h1⟩
  own := fun _ => ⟨rfl, rfl⟩
  exc := L.exc
  excF := L.excF
  room := fun _ => ⟨n, hr⟩
  hkc := fun _ => rfl
  hk0 := fun _ => rfl
  hk1 := fun i c h => nomatch (show (none : Option (Nat × Nat)) = some (i, c) from h)
theorem run_ok (L : Lk w K mg p cls fld) : ∀ (n k : Nat) (f : Fn) (a : Addr), p.fns[k]? = some f → mg f.name = some (.ref a) → FnG P w K mg base n a (spF (pcOf K w cls fld fun _ _ _ _ => False) (p.run n) k)
  | 0, k, f, a, _, _ => fun A outer s H us vs Q E _ _ _ _ ⟨m, h, ds, r, h', _, _, e, _⟩ => nomatch (show none = some (r, h') from e)
  | n + 1, k, f, a, hf, ha => by
    obtain ⟨a', fd, st, h1, h2, h3, h4, h5, h6, h7⟩ := L.fns k f hf
    rw [ha] at h1
    cases h1
    have ih := run_ok L n
    refine fnG_of h3 h4 h5 (fun vs H Q E h => ?_) fun cdv A outer s H vs Q E hr hg h => ?_
    · obtain ⟨m, hh, ds, r, h', a1, a2, a3, a4⟩ := h
      have a3 : (match p.fns[k]? with | some f => f.run p (p.run n) ds hh | none => none) = some (r, h') := a3
      rw [hf] at a3
      have a3 : f.run p (p.run n) ds hh = some (r, h') := a3
      unfold Fn.run at a3
      split at a3
      · rename_i hl
        rw [RelDs.length a2, hl]
      · cases a3
    · have fit := fit_def (P := P) (base := base) L (cdv := cdv) (outer := outer) (H := H) (E := E) h4 h6 hr hg ih
      refine ⟨_, (ok_sem (p.run n) fuel).B _ _ _ fit (defBody st), ?_⟩
      obtain ⟨m, hh, ds, r, h', a1, a2, a3, a4⟩ := h
      have a3 : (match p.fns[k]? with | some f => f.run p (p.run n) ds hh | none => none) = some (r, h') := a3
      rw [hf] at a3
      have a3 : f.run p (p.run n) ds hh = some (r, h') := a3
      unfold Fn.run at a3
      split at a3
      · rw [h7] at a3
        have en : EnvR (pcOf K w cls fld fun cv d _ H => E cv d H) m H (startD f.N ds) (L2.start f.N vs) := start_env rfl a2
        split at a3
        · rename_i d e1 h1 hs
          cases a3
          exact ⟨m, _, hh, _, _, _, a1, en, hs, fun m' H' σ' x y z v g => a4 m' H' x y v g⟩
        · rename_i e1 h1 hs
          cases a3
          exact ⟨m, _, hh, _, _, _, a1, en, hs, fun m' H' σ' x y z => a4 m' H' x y _ rfl⟩
        · rename_i c q e1 h1 hs
          cases a3
          exact ⟨m, _, hh, _, _, _, a1, en, hs, fun m' H' σ' x y z cv d ex => a4 m' H' x y cv d ex⟩
        · cases a3
      · cases a3
end
end Dd

set_option Elab.async false
set_option linter.all false
set_option maxRecDepth 100000
set_option maxHeartbeats 4000000
namespace Dd
open PySem PySem.Spec PyProof.Rows L2

/-! # 27. What the program's top has left -/
/-- of the written part that is meant -/
abbrev KOf {K : PySem.W.Frag} {h : Heap} (_ : K.In h) (Q : PySem.W.Frag → Prop) : Prop := Q K
/-- a def stands there -/
def DefAt (K : PySem.W.Frag) (mg : Str → Option Value) (x : Str) (st : Stmt) : Prop := ∃ (a : Addr) (fd : FuncData), mg x = some (.ref a) ∧ PySem.W.keepIn K (.ref a) = true ∧ Fun K x x st a fd
theorem def_mk {K : PySem.W.Frag} {h : Heap} {mg : Str → Option Value} {x : Str} {st : Stmt} (X : K.In h) (G : h.Ns mainGlobals mg) {f : Addr} {oc : Value} {od an : Option Addr} {osl : Array (Option Value)} {kV doc pm cdv ct : Value}
    (a : PySem.W.nsIn K mainGlobals x = some (some (.ref f))) (l : K.lookup f = some ⟨oc, od, .func (PySem.W.fnOf x x (defArgs st) (defBody st) (defScope st) .none kV doc pm an cdv ct), osl⟩)
    (c : PySem.W.codeIn K cdv x = true) (k : PySem.W.keepIn K (.ref f) = true) : DefAt K mg x st := ⟨f, _, PySem.W.mg_of X G a, k, fun_mk l c k⟩
/-- a def of the plain program, of the text st -/
structure FnOf (f : Fn) (st : Stmt) : Prop where
  sc : f.sc = defScope st
  body : f.body = defBody st
  scope : FnScope f.N f.ps (defScope st)
  binds : ∀ (kV doc pm : Value) (an : Option Addr) (cdv ct : Value) (us : List Value), us.length = f.ps.length → bindArgs (PySem.W.fnOf f.name f.name (defArgs st) (defBody st) (defScope st) .none kV doc pm an cdv ct) ⟨us, []⟩ = pure (f.ps.zip us)
def LkF (K : PySem.W.Frag) (mg : Str → Option Value) (f : Fn) : Prop := ∃ (a : Addr) (fd : FuncData) (st : Stmt), mg f.name = some (.ref a) ∧ PySem.W.keepIn K (.ref a) = true ∧ Fun K f.name f.name st a fd ∧ FnScope f.N f.ps (defScope st) ∧ Binds K fd f.ps [] ∧ f.sc = defScope st ∧ f.body = defBody st
theorem lkF {K : PySem.W.Frag} {mg : Str → Option Value} {f : Fn} {st : Stmt} (o : FnOf f st) (d : DefAt K mg f.name st) : LkF K mg f := by
  obtain ⟨a, fd, h1, h2, h3⟩ := d
  exact ⟨a, fd, st, h1, h2, h3, o.scope, h3.binds o.binds, o.sc, o.body⟩
def ConAt (K : PySem.W.Frag) (w : World) (mg : Str → Option Value) (x : Str) (d : D) : Prop := ∃ u v, mg x = some u ∧ RelV v u ∧ ∀ m H, RelD K w m H d v
section
variable {K : PySem.W.Frag} {w : World} {h : Heap} {mg : Str → Option Value} {x : Str}
theorem con_int (X : K.In h) (G : h.Ns mainGlobals mg) {i : Int} {t : Tok} (a : PySem.W.nsIn K mainGlobals x = some (some (.int i t))) : ConAt K w mg x (.int i) := ⟨_, .int i, PySem.W.mg_of X G a, ⟨t, rfl⟩, fun m H => rfl⟩
theorem con_str (X : K.In h) (G : h.Ns mainGlobals mg) {i : Str} {t : Tok} (a : PySem.W.nsIn K mainGlobals x = some (some (.str i t))) : ConAt K w mg x (.str i) := ⟨_, .str i, PySem.W.mg_of X G a, ⟨t, rfl⟩, fun m H => rfl⟩
theorem con_kt (X : K.In h) (G : h.Ns mainGlobals mg) {xs : List D} {p : Addr} (a : PySem.W.nsIn K mainGlobals x = some (some (.ref p))) (k : RelK K (.kt xs) (.ref p)) : ConAt K w mg x (.kt xs) := ⟨_, .ref p, PySem.W.mg_of X G a, rfl, fun m H => k⟩
theorem con_wd (X : K.In h) (G : h.Ns mainGlobals mg) {kvs : List (Str × D)} {p : Addr} (a : PySem.W.nsIn K mainGlobals x = some (some (.ref p))) (k : RelW K w kvs (.ref p)) : ConAt K w mg x (.wd kvs) := ⟨_, .ref p, PySem.W.mg_of X G a, rfl, fun m H => k⟩
theorem kt_mk {xs : List D} {vs : List V} {p : Addr} {c : Value} {dd : Option Addr} {its : Array Value} {n : Nat} {sl : Array (Option Value)} (l : K.lookup p = some ⟨c, dd, .seq its n, sl⟩) (hc : c = .type "tuple") (hz : its.size ≤ 1000) (hv : Vals vs its.toList) (hr : RelKs K xs vs) : RelK K (.kt xs) (.ref p) :=
  ⟨p, vs, rfl, ⟨_, its, n, l, hc, rfl, Nat.le_trans hz (by decide), hv⟩, hr⟩
/-- the entries of a written dict -/
def EntR (K : PySem.W.Frag) : List DictEntry → List (Str × D) → Prop
  | [], kvs => kvs = []
  | e :: es, kvs => ∃ x d r t v0, kvs = (x, d) :: r ∧ e.key = .str x t ∧ RelV v0 e.val ∧ RelK K d v0 ∧ EntR K es r
theorem ent_find {a : Addr} (z : Str) : ∀ {es : List DictEntry} {kvs : List (Str × D)}, EntR K es kvs → match kvs.lookup z with
    | some d => ∃ e v0, es.find? (·.key.isStr z) = some e ∧ RelV v0 e.val ∧ RelK K d v0
    | none => es.find? (·.key.isStr z) = none ∧ es.any (·.refKey) = false
  | [], kvs, h => by cases (show kvs = [] from h); exact ⟨rfl, rfl⟩
  | e :: es, kvs, h => by
    obtain ⟨x, d, r, t, v0, rfl, hk, h1, h2, h3⟩ := h
    have ih := ent_find (a := a) z h3
    have hs : e.key.isStr z = (x == z) := by rw [hk]; rfl
    have hr : e.refKey = false := by unfold DictEntry.refKey; rw [hk]
    rw [List.lookup_cons, List.find?_cons, hs]
    cases hb : x == z with
    | true =>
      have : (z == x) = true := by rw [eq_of_beq hb]; exact beq_self_eq_true z
      rw [this]
      exact ⟨e, v0, rfl, h1, h2⟩
    | false =>
      have : (z == x) = false := by
        cases hh : z == x with
        | false => rfl
        | true => rw [eq_of_beq hh, beq_self_eq_true] at hb; cases hb
      rw [this, List.any_cons, hr, Bool.false_or]
      exact ih
theorem wd_mk {kvs : List (Str × D)} {p : Addr} {es : Array DictEntry} {n : Nat} (l : K.lookup p = some ⟨.type "dict", none, .dict es n, #[]⟩) (lit : PySem.W.KeysLit w.params es.toList) (low : (p == sysModules) = false) (e : EntR K es.toList kvs) : RelW K w kvs (.ref p) := by
  refine ⟨p, es, n, rfl, ⟨l, lit, low⟩, fun z => ?_⟩
  have q := ent_find (a := p) z e
  unfold WdAt
  split at q
  · rename_i d hd
    try rw [hd]
    obtain ⟨e, v0, h1, h2, h3⟩ := q
    refine ⟨e.val, v0, ?_, h2, h3⟩
    unfold PySem.W.nsIn
    rw [l]
    dsimp only
    rw [h1]
  · rename_i hd
    try rw [hd]
    show PySem.W.nsIn K p z = some none
    unfold PySem.W.nsIn
    rw [l]
    dsimp only
    rw [q.1, q.2]
    rfl
end
/-- an error with one field is what except of its class names -/
theorem exm_own {K : PySem.W.Frag} {c : Addr} (h1 : PySem.W.subIn K (.ref c) (.type "BaseException") = some true) (h2 : PySem.W.isClsIn K c = true) (h3 : PySem.W.typeIn K (.ref c) = some (.type "type")) (h4 : PySem.W.subIn K (.ref c) (.ref c) = some true) :
    PySem.W.exmOne K (.ref c) (.ref c) = some true := by
  have h2' : (PySem.W.clsIn K c).isSome = true := h2
  simp [PySem.W.exmOne, PySem.W.kitCls, h1, h2', h3, h4]
theorem ex0 {x y : Str} {l : List (Str × Str)} {f : Str} {k c : Nat} (h : exIx x ((y, f) :: l) k = some c) : (x = y ∧ c = k) ∨ exIx x l (k + 1) = some c := by
  unfold exIx at h
  split at h
  · rename_i e; cases h; exact .inl ⟨e, rfl⟩
  · exact .inr h
theorem own_why {K : PySem.W.Frag} {h : Heap} {mg : Str → Option Value} {x : Str} (X : K.In h) (G : h.Ns mainGlobals mg) {C fI : Addr} {nm q : Str} {N : Addr} {bs bm : List Value} {sn : List Str} {sub : List Value} {ab : Bool} {col : Option Bool} {dd : Option Addr} {m0 m1 m2 m3 m5 : Option Value}
    {od an : Option Addr} {sl : Array (Option Value)} {oc dc pm cd ct : Value} {qn : Str} {p1 p2 q1 q2 q3 q4 : Pos}
    (aC : PySem.W.nsIn K mainGlobals x = some (some (.ref C)))
    (xL : K.lookup C = some (excClassObj nm q C N bs bm true sn sub ab col dd m0 m1 m2 m3 m5 "ValueError.__new__")) (rv : PySem.HandSPX.refsVE bm = true)
    (sa : PySem.W.findIn K (.ref C) "__setattr__" = some (some (.builtin "object.__setattr__"))) (ga : PySem.W.findIn K (.ref C) "__getattribute__" = some (some (.builtin "BaseException.__getattribute__"))) (gg : PySem.W.findIn K (.ref C) "__getattr__" = some none) (nb : PySem.W.findIn K (.ref C) "why" = some none)
    (a1 : PySem.W.findIn K (.ref C) "__init__" = some (some (.ref fI))) (t1 : PySem.W.typeIn K (.ref fI) = some (.type "function"))
    (l1 : K.lookup fI = some ⟨oc, od, .func (PySem.W.fnOf "__init__" qn (PySem.OWhy.iA p1 p2) (PySem.OWhy.iB q1 q2 q3 q4) PySem.OWhy.iS .none .none dc pm an cd ct), sl⟩) (c1 : PySem.W.codeIn K cd qn = true)
    (kC : PySem.W.keepIn K (.ref C) = true) (eC : PySem.W.subIn K (.ref C) (.type "BaseException") = some true) (tC : PySem.W.typeIn K (.ref C) = some (.type "type")) (hC : PySem.W.hasDictIn K C = true) (iC : PySem.W.isClsIn K C = true) (sC : PySem.W.subIn K (.ref C) (.ref C) = some true) :
    ∃ C fI, PySem.OWhy.OTxt K mg x C fI :=
  ⟨C, fI, { gC := PySem.W.mg_of X G aC, cls := ⟨nm, q, N, bs, bm, sn, sub, ab, col, dd, m0, m1, m2, m3, m5, xL, rv⟩, sa := sa, ga := ga, gg := gg, noN := nb, iC := a1, tC := t1, kC := kC, exC := eC, tyC := tC, hdC := hC, te := exm_own eC iC tC sC,
            fn := ⟨_, _, _, _, _, _, _, _, _, _, _, _, _, _, _, l1, c1⟩ }⟩
theorem own_path {K : PySem.W.Frag} {h : Heap} {mg : Str → Option Value} {x : Str} (X : K.In h) (G : h.Ns mainGlobals mg) {C fI : Addr} {nm q : Str} {N : Addr} {bs bm : List Value} {sn : List Str} {sub : List Value} {ab : Bool} {col : Option Bool} {dd : Option Addr} {m0 m1 m2 m3 m5 : Option Value}
    {od an : Option Addr} {sl : Array (Option Value)} {oc dc pm cd ct : Value} {qn : Str} {p1 p2 q1 q2 q3 q4 : Pos}
    (aC : PySem.W.nsIn K mainGlobals x = some (some (.ref C)))
    (xL : K.lookup C = some (excClassObj nm q C N bs bm true sn sub ab col dd m0 m1 m2 m3 m5 "ValueError.__new__")) (rv : PySem.HandSPX.refsVE bm = true)
    (sa : PySem.W.findIn K (.ref C) "__setattr__" = some (some (.builtin "object.__setattr__"))) (ga : PySem.W.findIn K (.ref C) "__getattribute__" = some (some (.builtin "BaseException.__getattribute__"))) (gg : PySem.W.findIn K (.ref C) "__getattr__" = some none) (nb : PySem.W.findIn K (.ref C) "path" = some none)
    (a1 : PySem.W.findIn K (.ref C) "__init__" = some (some (.ref fI))) (t1 : PySem.W.typeIn K (.ref fI) = some (.type "function"))
    (l1 : K.lookup fI = some ⟨oc, od, .func (PySem.W.fnOf "__init__" qn (PySem.OPath.iA p1 p2) (PySem.OPath.iB q1 q2 q3 q4) PySem.OPath.iS .none .none dc pm an cd ct), sl⟩) (c1 : PySem.W.codeIn K cd qn = true)
    (kC : PySem.W.keepIn K (.ref C) = true) (eC : PySem.W.subIn K (.ref C) (.type "BaseException") = some true) (tC : PySem.W.typeIn K (.ref C) = some (.type "type")) (hC : PySem.W.hasDictIn K C = true) (iC : PySem.W.isClsIn K C = true) (sC : PySem.W.subIn K (.ref C) (.ref C) = some true) :
    ∃ C fI, PySem.OPath.OTxt K mg x C fI :=
  ⟨C, fI, { gC := PySem.W.mg_of X G aC, cls := ⟨nm, q, N, bs, bm, sn, sub, ab, col, dd, m0, m1, m2, m3, m5, xL, rv⟩, sa := sa, ga := ga, gg := gg, noN := nb, iC := a1, tC := t1, kC := kC, exC := eC, tyC := tC, hdC := hC, te := exm_own eC iC tC sC,
            fn := ⟨_, _, _, _, _, _, _, _, _, _, _, _, _, _, _, l1, c1⟩ }⟩
theorem own_part {K : PySem.W.Frag} {h : Heap} {mg : Str → Option Value} {x : Str} (X : K.In h) (G : h.Ns mainGlobals mg) {C fI : Addr} {nm q : Str} {N : Addr} {bs bm : List Value} {sn : List Str} {sub : List Value} {ab : Bool} {col : Option Bool} {dd : Option Addr} {m0 m1 m2 m3 m5 : Option Value}
    {od an : Option Addr} {sl : Array (Option Value)} {oc dc pm cd ct : Value} {qn : Str} {p1 p2 q1 q2 q3 q4 : Pos}
    (aC : PySem.W.nsIn K mainGlobals x = some (some (.ref C)))
    (xL : K.lookup C = some (excClassObj nm q C N bs bm true sn sub ab col dd m0 m1 m2 m3 m5 "ValueError.__new__")) (rv : PySem.HandSPX.refsVE bm = true)
    (sa : PySem.W.findIn K (.ref C) "__setattr__" = some (some (.builtin "object.__setattr__"))) (ga : PySem.W.findIn K (.ref C) "__getattribute__" = some (some (.builtin "BaseException.__getattribute__"))) (gg : PySem.W.findIn K (.ref C) "__getattr__" = some none) (nb : PySem.W.findIn K (.ref C) "part" = some none)
    (a1 : PySem.W.findIn K (.ref C) "__init__" = some (some (.ref fI))) (t1 : PySem.W.typeIn K (.ref fI) = some (.type "function"))
    (l1 : K.lookup fI = some ⟨oc, od, .func (PySem.W.fnOf "__init__" qn (PySem.OPart.iA p1 p2) (PySem.OPart.iB q1 q2 q3 q4) PySem.OPart.iS .none .none dc pm an cd ct), sl⟩) (c1 : PySem.W.codeIn K cd qn = true)
    (kC : PySem.W.keepIn K (.ref C) = true) (eC : PySem.W.subIn K (.ref C) (.type "BaseException") = some true) (tC : PySem.W.typeIn K (.ref C) = some (.type "type")) (hC : PySem.W.hasDictIn K C = true) (iC : PySem.W.isClsIn K C = true) (sC : PySem.W.subIn K (.ref C) (.ref C) = some true) :
    ∃ C fI, PySem.OPart.OTxt K mg x C fI :=
  ⟨C, fI, { gC := PySem.W.mg_of X G aC, cls := ⟨nm, q, N, bs, bm, sn, sub, ab, col, dd, m0, m1, m2, m3, m5, xL, rv⟩, sa := sa, ga := ga, gg := gg, noN := nb, iC := a1, tC := t1, kC := kC, exC := eC, tyC := tC, hdC := hC, te := exm_own eC iC tC sC,
            fn := ⟨_, _, _, _, _, _, _, _, _, _, _, _, _, _, _, l1, c1⟩ }⟩
/-- the law's own word -/
def spLaw (K : PySem.W.Frag) (k : Nat) : Sp := fun vs H Q _ => ∃ (a : Addr) (ns : List Int), vs = [.ref a] ∧ ns.length ≤ k ∧ FrzL K H a (ns.map V.int) ∧ ∀ H', Q (.bl true) H'
theorem FnG.mono {P : Program} {w : World} {K : PySem.W.Frag} {mg : Str → Option Value} {base : Heap} {n : Nat} {f : Addr} {sp sp' : Sp} (F : FnG P w K mg base n f sp) (h : ∀ vs H Q E, sp' vs H Q E → sp vs H Q E) : FnG P w K mg base n f sp' :=
  fun A outer s H us vs Q E hr hg e0 r q => F A outer s H us vs Q E hr hg e0 r (h _ _ _ _ q)
theorem law_of {P : Program} {w : World} {K : PySem.W.Frag} {mg : Str → Option Value} {base : Heap} {p : Pg} {cls : Nat → Addr} {fld : Nat → Str} (L : Lk w K mg p cls fld) {n li k : Nat} {f : Fn} {fa : Addr} (hf : p.fns[li]? = some f) (ha : mg f.name = some (.ref fa))
    (main : ∀ ns : List Int, ns.length ≤ k → ∃ h', p.run n li [.frz ns] [] = some (.ok (.bl true), h')) : FnG P w K mg base n fa (spLaw K k) := by
  refine (run_ok (P := P) (base := base) L n li f fa hf ha).mono fun vs H Q E h => ?_
  obtain ⟨a, ns, rfl, hn, hz, q⟩ := h
  obtain ⟨h', hm⟩ := main ns hn
  refine ⟨[], [], [.frz ns], _, h', ⟨List.nodup_nil, rfl, fun i ob z => nomatch z⟩, ⟨_, [], rfl, ⟨a, rfl, hz⟩, rfl⟩, hm, fun m' H' x y v g => ?_⟩
  rw [show v = V.bl true from g]
  exact q H'
end Dd

set_option Elab.async false
set_option linter.all false
set_option maxRecDepth 100000
set_option maxHeartbeats 4000000
namespace Dd
open PySem L2

/-! # 28. Asking the plain program: what is to hold behind a statement, an expression, a call -/
def WP (m : MS) (e : DE) (h : DH) (Q : Fl → DE → DH → Prop) : Prop := ∃ f e' h', m e h = some (f, e', h') ∧ Q f e' h'
def RsP {α : Type} (r : Rs α) (h : DH) (Q : α → DH → Prop) (X : Nat → D → DH → Prop) : Prop := match r with | .ok a => Q a h | .ex c p => X c p h
def WE {α : Type} (m : M α) (e : DE) (h : DH) (Q : α → DH → Prop) (X : Nat → D → DH → Prop) : Prop := ∃ r h', m e h = some (r, h') ∧ RsP r h' Q X
/-- a call -/
def WC (F : Call) (i : Nat) (ds : List D) (h : DH) (Q : D → DH → Prop) (X : Nat → D → DH → Prop) : Prop := ∃ r h', F i ds h = some (r, h') ∧ RsP r h' Q X
/-- an operation -/
def WO {α : Type} (f : DH → Option (α × DH)) (h : DH) (Q : α → DH → Prop) : Prop := match f h with | some (d, h') => Q d h' | none => False
theorem wo_iff {α : Type} {f : DH → Option (α × DH)} {h : DH} {Q : α → DH → Prop} : WO f h Q ↔ ∃ d h', f h = some (d, h') ∧ Q d h' := by
  unfold WO
  cases hf : f h with
  | none => exact ⟨fun z => z.elim, fun ⟨_, _, z, _⟩ => nomatch z⟩
  | some p => exact ⟨fun z => ⟨p.1, p.2, rfl, z⟩, fun ⟨_, _, z, q⟩ => by cases z; exact q⟩
section
variable {α β : Type} {e : DE} {h : DH} {X : Nat → D → DH → Prop}
theorem WE.mono {m : M α} {Q Q' : α → DH → Prop} {X' : Nat → D → DH → Prop} (w : WE m e h Q X) (q : ∀ a h, Q a h → Q' a h) (x : ∀ c p h, X c p h → X' c p h) : WE m e h Q' X' := by
  obtain ⟨r, h', a, b⟩ := w
  refine ⟨r, h', a, ?_⟩
  cases r with
  | ok a => exact q _ _ b
  | ex c p => exact x _ _ _ b
theorem WC.mono {F : Call} {i : Nat} {ds : List D} {Q Q' : D → DH → Prop} {X' : Nat → D → DH → Prop} (w : WC F i ds h Q X) (q : ∀ a h, Q a h → Q' a h) (x : ∀ c p h, X c p h → X' c p h) : WC F i ds h Q' X' := by
  obtain ⟨r, h', a, b⟩ := w
  refine ⟨r, h', a, ?_⟩
  cases r with
  | ok a => exact q _ _ b
  | ex c p => exact x _ _ _ b
theorem WP.mono {m : MS} {Q Q' : Fl → DE → DH → Prop} (w : WP m e h Q) (q : ∀ f e h, Q f e h → Q' f e h) : WP m e h Q' := by
  obtain ⟨f, e', h', a, b⟩ := w
  exact ⟨f, e', h', a, q _ _ _ b⟩
theorem WC.ok {F : Call} {i : Nat} {ds : List D} {d : D} {h' : DH} {Q : D → DH → Prop} (q : F i ds h = some (.ok d, h')) (w : Q d h') : WC F i ds h Q X := ⟨_, _, q, w⟩
theorem WC.ex {F : Call} {i : Nat} {ds : List D} {c : Nat} {p : D} {h' : DH} {Q : D → DH → Prop} (q : F i ds h = some (.ex c p, h')) (w : X c p h') : WC F i ds h Q X := ⟨_, _, q, w⟩
theorem we_ret {a : α} {Q : α → DH → Prop} : WE (ret a) e h Q X ↔ Q a h := by
  constructor
  · rintro ⟨r, h', q, w⟩
    cases q
    exact w
  · exact fun w => ⟨_, _, rfl, w⟩
theorem we_bnd {m : M α} {k : α → M β} {Q : β → DH → Prop} : WE (bnd m k) e h Q X ↔ WE m e h (fun a h1 => WE (k a) e h1 Q X) X := by
  constructor
  · rintro ⟨r, h', q, w⟩
    unfold bnd at q
    split at q
    · cases q
    · rename_i c p h1 hm
      cases q
      exact ⟨_, _, hm, w⟩
    · rename_i a h1 hm
      exact ⟨_, _, hm, r, h', q, w⟩
  · rintro ⟨r, h1, q, w⟩
    cases r with
    | ex c p => exact ⟨.ex c p, h1, by unfold bnd; rw [q], w⟩
    | ok a =>
      obtain ⟨r2, h2, q2, w2⟩ := w
      exact ⟨r2, h2, by unfold bnd; rw [q]; exact q2, w2⟩
theorem we_lift {f : DH → Option (α × DH)} {Q : α → DH → Prop} : WE (lift f) e h Q X ↔ WO f h Q := by
  rw [wo_iff]
  constructor
  · rintro ⟨r, h', q, w⟩
    unfold lift at q
    split at q
    · rename_i a h1 hf
      cases q
      exact ⟨_, _, hf, w⟩
    · cases q
  · rintro ⟨d, h', q, w⟩
    exact ⟨.ok d, h', by unfold lift; rw [q], w⟩
theorem we_var {i : Nat} {Q : D → DH → Prop} : WE (var i) e h Q X ↔ ∃ d, e[i]? = some (some d) ∧ Q d h := by
  constructor
  · rintro ⟨r, h', q, w⟩
    unfold var at q
    split at q
    · rename_i d hd
      cases q
      exact ⟨d, hd, w⟩
    · cases q
  · rintro ⟨d, q, w⟩
    exact ⟨.ok d, h, by unfold var; rw [q], w⟩
theorem we_args_nil {Q : List D → DH → Prop} : WE (args []) e h Q X ↔ Q [] h := we_ret
theorem we_args_cons {m : M D} {r : List (M D)} {Q : List D → DH → Prop} : WE (args (m :: r)) e h Q X ↔ WE m e h (fun x h1 => WE (args r) e h1 (fun xs h2 => Q (x :: xs) h2) X) X := by
  show WE (bnd m fun x => bnd (args r) fun xs => ret (x :: xs)) e h Q X ↔ _
  simp only [we_bnd, we_ret]
theorem we_opN {f : List D → DH → Option (D × DH)} {as : List (M D)} {Q : D → DH → Prop} : WE (opN f as) e h Q X ↔ WE (args as) e h (fun xs h1 => WO (f xs) h1 Q) X := by
  unfold opN
  simp only [we_bnd, we_lift]
theorem we_op1 {f : D → DH → Option (D × DH)} {a : M D} {Q : D → DH → Prop} : WE (op1 f a) e h Q X ↔ WE a e h (fun x h1 => WO (f x) h1 Q) X := by
  unfold op1
  simp only [we_bnd, we_lift]
theorem we_op2 {f : D → D → DH → Option (D × DH)} {a b : M D} {Q : D → DH → Prop} : WE (op2 f a b) e h Q X ↔ WE a e h (fun x h1 => WE b e h1 (fun y h2 => WO (f x y) h2 Q) X) X := by
  unfold op2
  simp only [we_bnd, we_lift]
theorem we_call {F : Call} {i : Nat} {as : List (M D)} {Q : D → DH → Prop} : WE (callM F i as) e h Q X ↔ WE (args as) e h (fun xs h1 => WC F i xs h1 Q X) X := by
  unfold callM
  rw [we_bnd]
  exact Iff.rfl
theorem we_tst {m : M D} {Q : Bool → DH → Prop} : WE (tst m) e h Q X ↔ WE m e h (fun x h1 => ∃ b, x = .bl b ∧ Q b h1) X := by
  unfold tst
  rw [we_bnd]
  constructor <;> intro w <;> refine w.mono (fun a h1 q => ?_) fun _ _ _ x => x
  · cases a with
    | bl b => exact ⟨b, rfl, we_ret.mp q⟩
    | _ => obtain ⟨r, h', z, _⟩ := q; cases z
  · obtain ⟨b, rfl, q⟩ := q
    exact we_ret.mpr q
theorem we_tru {f : D → DH → Option Bool} {m : M D} {Q : Bool → DH → Prop} : WE (tru f m) e h Q X ↔ WE m e h (fun x h1 => ∃ b, f x h1 = some b ∧ Q b h1) X := by
  unfold tru
  rw [we_bnd]
  constructor <;> intro w <;> refine w.mono (fun a h1 q => ?_) fun _ _ _ x => x
  · obtain ⟨d, h', q1, q2⟩ := wo_iff.mp (we_lift.mp q)
    obtain ⟨b, e1, e2⟩ := map_some q1
    cases e2
    exact ⟨_, e1, q2⟩
  · obtain ⟨b, e1, q2⟩ := q
    exact we_lift.mpr (wo_iff.mpr ⟨b, h1, by rw [e1]; rfl, q2⟩)
theorem we_notT {t : M Bool} {Q : Bool → DH → Prop} : WE (notT t) e h Q X ↔ WE t e h (fun b h1 => Q (!b) h1) X := by
  unfold notT
  simp only [we_bnd, we_ret]
theorem we_if {α : Type} {b : Bool} {m n : M α} {Q : α → DH → Prop} : WE (if b then m else n) e h Q X ↔ if b then WE m e h Q X else WE n e h Q X := by
  cases b <;> exact Iff.rfl
theorem we_andT {t u : M Bool} {Q : Bool → DH → Prop} : WE (andT t u) e h Q X ↔ WE t e h (fun b h1 => if b then WE u e h1 Q X else Q false h1) X := by
  unfold andT
  simp only [we_bnd, we_if, we_ret]
theorem we_orT {t u : M Bool} {Q : Bool → DH → Prop} : WE (orT t u) e h Q X ↔ WE t e h (fun b h1 => if b then Q true h1 else WE u e h1 Q X) X := by
  unfold orT
  simp only [we_bnd, we_if, we_ret]
theorem we_bl {m : Bool → M D} {x : D} {Q : D → DH → Prop} : WE (match x with | .bl b => m b | _ => stuck) e h Q X ↔ ∃ b, x = .bl b ∧ WE (m b) e h Q X := by
  constructor
  · intro w
    cases x with
    | bl b => exact ⟨b, rfl, w⟩
    | _ => obtain ⟨r, h', z, _⟩ := w; cases z
  · rintro ⟨b, rfl, w⟩
    exact w
theorem we_notV {m : M D} {Q : D → DH → Prop} : WE (notV m) e h Q X ↔ WE m e h (fun x h1 => ∃ b, x = .bl b ∧ Q (.bl (!b)) h1) X := by
  show WE (bnd m _) e h Q X ↔ _
  rw [we_bnd]
  constructor <;> intro w <;> refine w.mono (fun a h1 q => ?_) fun _ _ _ x => x
  · obtain ⟨b, rfl, q⟩ := (we_bl (m := fun b => ret (.bl (!b)))).mp q
    exact ⟨b, rfl, we_ret.mp q⟩
  · obtain ⟨b, rfl, q⟩ := q
    exact we_ret.mpr q
theorem we_andV {m n : M D} {Q : D → DH → Prop} : WE (andV m n) e h Q X ↔ WE m e h (fun x h1 => ∃ b, x = .bl b ∧ if b then WE n e h1 Q X else Q (.bl false) h1) X := by
  show WE (bnd m _) e h Q X ↔ _
  rw [we_bnd]
  constructor <;> intro w <;> refine w.mono (fun a h1 q => ?_) fun _ _ _ x => x
  · obtain ⟨b, rfl, q⟩ := (we_bl (m := fun b => if b then n else ret (.bl false))).mp q
    cases b
    · exact ⟨false, rfl, we_ret.mp q⟩
    · exact ⟨true, rfl, q⟩
  · obtain ⟨b, rfl, q⟩ := q
    cases b
    · exact we_ret.mpr q
    · exact q
theorem we_orV {m n : M D} {Q : D → DH → Prop} : WE (orV m n) e h Q X ↔ WE m e h (fun x h1 => ∃ b, x = .bl b ∧ if b then Q (.bl true) h1 else WE n e h1 Q X) X := by
  show WE (bnd m _) e h Q X ↔ _
  rw [we_bnd]
  constructor <;> intro w <;> refine w.mono (fun a h1 q => ?_) fun _ _ _ x => x
  · obtain ⟨b, rfl, q⟩ := (we_bl (m := fun b => if b then ret (.bl true) else n)).mp q
    cases b
    · exact ⟨false, rfl, q⟩
    · exact ⟨true, rfl, we_ret.mp q⟩
  · obtain ⟨b, rfl, q⟩ := q
    cases b
    · exact q
    · exact we_ret.mpr q
theorem we_ite {t : M Bool} {a b : M D} {Q : D → DH → Prop} : WE (iteM t a b) e h Q X ↔ WE t e h (fun c h1 => if c then WE a e h1 Q X else WE b e h1 Q X) X := by
  unfold iteM
  simp only [we_bnd, we_if]
theorem we_chn {f g : D → D → DH → Option (D × DH)} {a b c : M D} {Q : D → DH → Prop} : WE (chn f g a b c) e h Q X ↔ WE a e h (fun x h1 => WE b e h1 (fun y h2 => WO (f x y) h2 fun z h3 => ∃ k, z = .bl k ∧ if k then WE c e h3 (fun u h4 => WO (g y u) h4 Q) X else Q (.bl false) h3) X) X := by
  show WE (bnd a fun x => bnd b fun y => bnd (lift (f x y)) _) e h Q X ↔ _
  simp only [we_bnd, we_lift]
  constructor <;> intro w <;> refine w.mono (fun x h1 w => w.mono (fun y h2 w => ?_) fun _ _ _ x => x) fun _ _ _ x => x
  · obtain ⟨z, h3, q1, q2⟩ := wo_iff.mp w
    refine wo_iff.mpr ⟨z, h3, q1, ?_⟩
    obtain ⟨k, rfl, q⟩ := (we_bl (m := fun k => if k then bnd c fun u => lift (g y u) else ret (.bl false))).mp q2
    cases k
    · exact ⟨false, rfl, we_ret.mp q⟩
    · refine ⟨true, rfl, ?_⟩
      have q := we_bnd.mp q
      simp only [we_lift] at q
      exact q
  · obtain ⟨z, h3, q1, k, rfl, q⟩ := wo_iff.mp w
    refine wo_iff.mpr ⟨_, h3, q1, ?_⟩
    cases k
    · exact we_ret.mpr q
    · refine we_bnd.mpr ?_
      simp only [we_lift]
      exact q
theorem we_mth {k : Mth} {o : M D} {as : List (M D)} {Q : D → DH → Prop} : WE (mthM k o as) e h Q X ↔ WE o e h (fun x h1 => mthOk k x h1 = true ∧ WE (args as) e h1 (fun xs h2 => WO (mthD k x xs) h2 Q) X) X := by
  unfold mthM
  simp only [we_bnd, we_lift]
  constructor <;> intro w <;> refine w.mono (fun x h1 w => ?_) fun _ _ _ x => x
  · obtain ⟨z, h3, q1, q2⟩ := wo_iff.mp w
    split at q1
    · rename_i hk
      cases q1
      exact ⟨hk, q2⟩
    · cases q1
  · exact wo_iff.mpr ⟨(), h1, by rw [if_pos w.1], w.2⟩
theorem we_slice {a : M D} {lo hi : M (Option Int)} {Q : D → DH → Prop} : WE (sliceM a lo hi) e h Q X ↔ WE a e h (fun x h1 => WE lo e h1 (fun l h2 => WE hi e h2 (fun u h3 => WO (sliceD x l u) h3 Q) X) X) X := by
  unfold sliceM
  simp only [we_bnd, we_lift]
theorem we_intOf {a : M D} {Q : Option Int → DH → Prop} : WE (intOf a) e h Q X ↔ WE a e h (fun x h1 => ∃ i, x = .int i ∧ Q (some i) h1) X := by
  show WE (bnd a _) e h Q X ↔ _
  rw [we_bnd]
  constructor <;> intro w <;> refine w.mono (fun x h1 q => ?_) fun _ _ _ x => x
  · cases x with
    | int i => exact ⟨i, rfl, we_ret.mp q⟩
    | _ => obtain ⟨r, h', z, _⟩ := q; cases z
  · obtain ⟨i, rfl, q⟩ := q
    exact we_ret.mpr q
end
/-! ### statements -/
/-- what comes behind -/
def Nx (Q : Fl → DE → DH → Prop) (b : MS) : Fl → DE → DH → Prop := fun f e h => match f with | .next => WP b e h Q | f => Q f e h
section
variable {e : DE} {h : DH} {Q : Fl → DE → DH → Prop}
theorem nx_next {b : MS} : Nx Q b .next e h ↔ WP b e h Q := ⟨fun x => x, fun x => x⟩
theorem nx_ret {b : MS} {d : D} : Nx Q b (.ret d) e h ↔ Q (.ret d) e h := ⟨fun x => x, fun x => x⟩
theorem nx_ex {b : MS} {c : Nat} {d : D} : Nx Q b (.ex c d) e h ↔ Q (.ex c d) e h := ⟨fun x => x, fun x => x⟩
theorem nx_brk {b : MS} : Nx Q b .brk e h ↔ Q .brk e h := ⟨fun x => x, fun x => x⟩
theorem nx_cont {b : MS} : Nx Q b .cont e h ↔ Q .cont e h := ⟨fun x => x, fun x => x⟩
theorem wp_skip : WP skip e h Q ↔ Q .next e h := by
  constructor
  · rintro ⟨f, e', h', q, w⟩
    cases q
    exact w
  · exact fun w => ⟨_, _, _, rfl, w⟩
theorem wp_seq {a b : MS} : WP (seq a b) e h Q ↔ WP a e h (Nx Q b) := by
  constructor
  · rintro ⟨f, e', h', q, w⟩
    unfold seq at q
    split at q
    · rename_i e1 h1 ha
      exact ⟨.next, e1, h1, ha, f, e', h', q, w⟩
    · rename_i hn
      refine ⟨f, e', h', q, ?_⟩
      cases f with
      | next => exact absurd q (hn e' h')
      | _ => exact w
  · rintro ⟨f, e1, h1, q, w⟩
    cases f with
    | next =>
      obtain ⟨f2, e2, h2, q2, w2⟩ := w
      exact ⟨f2, e2, h2, by unfold seq; rw [q]; exact q2, w2⟩
    | _ => exact ⟨_, _, _, by unfold seq; rw [q], w⟩
theorem wp_with {α : Type} {m : M α} {k : α → MS} : WP (withM m k) e h Q ↔ WE m e h (fun a h1 => WP (k a) e h1 Q) fun c p h1 => Q (.ex c p) e h1 := by
  constructor
  · rintro ⟨f, e', h', q, w⟩
    rcases withM_some q with ⟨c, p, q1, rfl, rfl⟩ | ⟨a, h1, q1, q2⟩
    · exact ⟨_, _, q1, w⟩
    · exact ⟨_, _, q1, f, e', h', q2, w⟩
  · rintro ⟨r, h1, q, w⟩
    cases r with
    | ex c p => exact ⟨.ex c p, e, h1, by unfold withM; rw [q], w⟩
    | ok a =>
      obtain ⟨f2, e2, h2, q2, w2⟩ := w
      exact ⟨f2, e2, h2, by unfold withM; rw [q]; exact q2, w2⟩
theorem wp_drop {m : M D} : WP (drop m) e h Q ↔ WE m e h (fun _ h1 => Q .next e h1) fun c p h1 => Q (.ex c p) e h1 := by
  unfold drop
  simp only [wp_with, wp_skip]
theorem wp_ret {m : M D} : WP (retS m) e h Q ↔ WE m e h (fun d h1 => Q (.ret d) e h1) fun c p h1 => Q (.ex c p) e h1 := by
  unfold retS
  rw [wp_with]
  constructor <;> intro w <;> refine w.mono (fun x h1 w => ?_) fun _ _ _ x => x
  · obtain ⟨f, e', h', q, w⟩ := w
    cases q
    exact w
  · exact ⟨_, _, _, rfl, w⟩
theorem wp_asg {t : Tg} {m : M D} : WP (asg t m) e h Q ↔ WE m e h (fun d h1 => ∃ e1, t.put d h1 e = some e1 ∧ Q .next e1 h1) fun c p h1 => Q (.ex c p) e h1 := by
  unfold asg
  rw [wp_with]
  constructor <;> intro w <;> refine w.mono (fun x h1 w => ?_) fun _ _ _ x => x
  · obtain ⟨f, e', h', q, w⟩ := w
    obtain ⟨e1, q1, q2⟩ := map_some q
    cases q2
    exact ⟨e', q1, w⟩
  · obtain ⟨e1, q1, w⟩ := w
    exact ⟨.next, e1, h1, by dsimp only; rw [q1]; rfl, w⟩
theorem wp_if {t : M Bool} {a b : MS} : WP (ifS t a b) e h Q ↔ WE t e h (fun c h1 => if c then WP a e h1 Q else WP b e h1 Q) fun c p h1 => Q (.ex c p) e h1 := by
  unfold ifS
  rw [wp_with]
  constructor <;> intro w <;> refine w.mono (fun c h1 w => ?_) fun _ _ _ x => x
  · cases c <;> exact w
  · cases c <;> exact w
theorem wp_raise {c : Nat} {m : M D} : WP (raiS c m) e h Q ↔ WE m e h (fun d h1 => Q (.ex c d) e h1) fun c p h1 => Q (.ex c p) e h1 := by
  unfold raiS
  rw [wp_with]
  constructor <;> intro w <;> refine w.mono (fun x h1 w => ?_) fun _ _ _ x => x
  · obtain ⟨f, e', h', q, w⟩ := w
    cases q
    exact w
  · exact ⟨_, _, _, rfl, w⟩
theorem wp_set {o k m : M D} : WP (setS o k m) e h Q ↔ WE m e h (fun v h1 => WE o e h1 (fun x h2 => WE k e h2 (fun y h3 => ∃ h4, putAt x y v h3 = some h4 ∧ Q .next e h4) fun c p h1 => Q (.ex c p) e h1) fun c p h1 => Q (.ex c p) e h1) fun c p h1 => Q (.ex c p) e h1 := by
  unfold setS
  simp only [wp_with]
  constructor <;> intro w <;> refine w.mono (fun v h1 w => w.mono (fun x h2 w => w.mono (fun y h3 w => ?_) fun _ _ _ x => x) fun _ _ _ x => x) fun _ _ _ x => x
  · obtain ⟨f, e', h', q, w⟩ := w
    obtain ⟨h4, q1, q2⟩ := map_some q
    cases q2
    exact ⟨h', q1, w⟩
  · obtain ⟨h4, q1, w⟩ := w
    exact ⟨.next, e, h4, by dsimp only; rw [q1]; rfl, w⟩
/-- a for over items -/
theorem wp_for {it : M Src} {t : Tg} {b : MS} (w : WE it e h (fun s h1 => ∃ xs, s = .items xs ∧ ∃ Inv : Nat → DE → DH → Prop, Inv 0 e h1 ∧ (∀ e h, Inv xs.length e h → Q .next e h) ∧
      ∀ k d e h, xs[k]? = some d → Inv k e h → ∃ e1, t.put d h e = some e1 ∧ WP b e1 h fun f e2 h2 => match f with | .next => Inv (k + 1) e2 h2 | .cont => Inv (k + 1) e2 h2 | .brk => Q .next e2 h2 | f => Q f e2 h2) fun c p h1 => Q (.ex c p) e h1) : WP (forS it t b) e h Q := by
  unfold forS
  rw [wp_with]
  refine w.mono (fun s h1 w => ?_) fun _ _ _ x => x
  obtain ⟨xs, rfl, Inv, h0, hd, step⟩ := w
  show WP (forL (.items xs) t b xs.length 0) e h1 Q
  have go : ∀ n k e h, k + n = xs.length → Inv k e h → WP (forL (.items xs) t b n k) e h Q := by
    intro n
    induction n with
    | zero =>
      intro k e h hk i
      exact ⟨.next, e, h, rfl, hd e h (by rw [← hk]; exact i)⟩
    | succ n ih =>
      intro k e h hk i
      have hlt : k < xs.length := by omega
      obtain ⟨e1, p1, f, e2, h2, q, w⟩ := step k xs[k] e h (List.getElem?_eq_getElem hlt) i
      have un : forL (.items xs) t b (n + 1) k e h = match b e1 h with
          | some (.next, e2, h2) => forL (.items xs) t b n (k + 1) e2 h2
          | some (.cont, e2, h2) => forL (.items xs) t b n (k + 1) e2 h2
          | some (.brk, e2, h2) => some (.next, e2, h2)
          | r => r := by
        dsimp only [forL, Src.at_]
        rw [List.getElem?_eq_getElem hlt]
        dsimp only
        rw [p1]
        try rfl
      unfold WP
      rw [un, q]
      cases f with
      | next => exact ih (k + 1) e2 h2 (by omega) w
      | cont => exact ih (k + 1) e2 h2 (by omega) w
      | brk => exact ⟨_, _, _, rfl, w⟩
      | ret d => exact ⟨_, _, _, rfl, w⟩
      | ex c p => exact ⟨_, _, _, rfl, w⟩
  exact go xs.length 0 e h1 (by omega) h0
/-- a comprehension over items; what is to hold of the list so far and of the heap; the list itself stands at the end -/
theorem we_lc {vs : List Nat} {it : M Src} {t : Tg} {c : M Bool} {m : M D} {Q : D → DH → Prop} {X : Nat → D → DH → Prop}
    (w : WE it e h (fun s h1 => ∃ xs, s = .items xs ∧ xs.length ≤ Z ∧ ∃ Inv : Nat → List D → DH → Prop, Inv 0 [] (h1 ++ [.lst []]) ∧ (∀ acc h, lstAt h h1.length = some acc → Inv xs.length acc h → Q (.ref h1.length) h) ∧
      ∀ k d acc h, xs[k]? = some d → k < xs.length → lstAt h h1.length = some acc → acc.length ≤ k → Inv k acc h → ∃ e1, t.put d h (wipeE e vs) = some e1 ∧ WE c e1 h (fun b h2 => if b then WE m e1 h2 (fun x h3 => lstAt h3 h1.length = some acc ∧ Inv (k + 1) (acc ++ [x]) (h3.set h1.length (.lst (acc ++ [x])))) (fun _ _ _ => False)
        else lstAt h2 h1.length = some acc ∧ Inv (k + 1) acc h2) (fun _ _ _ => False)) X) : WE (lcM vs it t c m) e h Q X := by
  unfold lcM
  rw [we_bnd]
  refine w.mono (fun s h1 w => ?_) fun _ _ _ x => x
  obtain ⟨xs, rfl, hz, Inv, i0, hd, step⟩ := w
  have put : ∀ {h : DH} {i : Nat} {xs ys : List D}, lstAt h i = some ys → lstAt (h.set i (.lst xs)) i = some xs := fun {h i xs ys} e => by
    have := (List.getElem?_eq_some_iff.mp (lstAt_some e)).1
    unfold lstAt
    rw [List.getElem?_set_self this]
  have go : ∀ n k acc h, k + n = xs.length → lstAt h h1.length = some acc → acc.length ≤ k → Inv k acc h → ∃ h', lcLoop (.items xs) t c m h1.length (wipeE e vs) n k h = some h' ∧ ∃ acc, lstAt h' h1.length = some acc ∧ Inv xs.length acc h' := by
    intro n
    induction n with
    | zero =>
      intro k acc h hk l _ i
      exact ⟨h, rfl, acc, l, by rw [← hk]; exact i⟩
    | succ n ih =>
      intro k acc h hk l hl i
      have hlt : k < xs.length := by omega
      obtain ⟨e1, p1, r, h2, q, w⟩ := step k xs[k] acc h (List.getElem?_eq_getElem hlt) hlt l hl i
      have un : lcLoop (.items xs) t c m h1.length (wipeE e vs) (n + 1) k h = match c e1 h with
          | some (.ok true, h1') => match m e1 h1' with
            | some (.ok x, h2) => match lstAt h2 h1.length with
              | some acc => if acc.length < Z then lcLoop (.items xs) t c m h1.length (wipeE e vs) n (k + 1) (h2.set h1.length (.lst (acc ++ [x]))) else none
              | none => none
            | _ => none
          | some (.ok false, h1') => lcLoop (.items xs) t c m h1.length (wipeE e vs) n (k + 1) h1'
          | _ => none := by
        dsimp only [lcLoop, Src.at_]
        rw [List.getElem?_eq_getElem hlt]
        dsimp only
        rw [p1]
        try rfl
      rw [un, q]
      cases r with
      | ex c p => exact w.elim
      | ok b =>
        cases b with
        | false =>
          obtain ⟨w1, w2⟩ := w
          exact ih (k + 1) acc h2 (by omega) w1 (by omega) w2
        | true =>
          obtain ⟨r, h3, q3, w⟩ := w
          dsimp only
          rw [q3]
          cases r with
          | ex c p => exact w.elim
          | ok x =>
            obtain ⟨w1, w2⟩ := w
            dsimp only
            rw [w1]
            dsimp only
            rw [if_pos (by omega)]
            exact ih (k + 1) _ _ (by omega) (put w1) (by rw [List.length_append]; exact Nat.succ_le_succ hl) w2
  have l0 : lstAt (h1 ++ [.lst []]) h1.length = some [] := by
    unfold lstAt
    rw [List.getElem?_append_right (Nat.le_refl _), Nat.sub_self]
    rfl
  obtain ⟨h', q, acc, l, i⟩ := go xs.length 0 [] (h1 ++ [.lst []]) (by omega) l0 (Nat.le_refl _) i0
  exact ⟨.ok (.ref h1.length), h', by show (lcLoop (.items xs) t c m h1.length (wipeE e vs) xs.length 0 (h1 ++ [.lst []])).map _ = _; rw [q]; rfl, hd acc h' l i⟩
end
end Dd

set_option Elab.async false
set_option linter.all false
set_option maxRecDepth 100000
set_option maxHeartbeats 4000000
namespace Dd
open PySem L2

/-! # 29. Loops by what is walked -/
/-- behind a turn -/
def Turned (Q : Fl → DE → DH → Prop) (I : DE → DH → Prop) : Fl → DE → DH → Prop := fun f e h => match f with
  | .next => I e h
  | .cont => I e h
  | .brk => Q .next e h
  | f => Q f e h
section
variable {e : DE} {h : DH} {Q : Fl → DE → DH → Prop} {I : DE → DH → Prop}
theorem td_next : Turned Q I .next e h ↔ I e h := ⟨fun x => x, fun x => x⟩
theorem td_cont : Turned Q I .cont e h ↔ I e h := ⟨fun x => x, fun x => x⟩
theorem td_brk : Turned Q I .brk e h ↔ Q .next e h := ⟨fun x => x, fun x => x⟩
theorem td_ret {d : D} : Turned Q I (.ret d) e h ↔ Q (.ret d) e h := ⟨fun x => x, fun x => x⟩
theorem td_ex {c : Nat} {p : D} : Turned Q I (.ex c p) e h ↔ Q (.ex c p) e h := ⟨fun x => x, fun x => x⟩
theorem td_iff {f : Fl} : Turned Q I f e h ↔ (match f with | .next => I e h | .cont => I e h | .brk => Q .next e h | f => Q f e h) := by
  cases f <;> exact Iff.rfl
theorem rngs_turn {lo : Int} {n k : Nat} {d : D} (h : ((List.range n).map fun k => D.int (lo + (k : Nat)))[k]? = some d) : d = .int (lo + k) ∧ k < n := by
  rw [List.getElem?_map] at h
  obtain ⟨j, e1, e2⟩ := map_some h
  obtain ⟨h1, h2⟩ := List.getElem?_eq_some_iff.mp e1
  rw [List.length_range] at h1
  rw [List.getElem_range] at h2
  subst h2 e2
  exact ⟨rfl, h1⟩
theorem rng1_nat {n : Nat} {h : DH} (h62 : in62 n = true) : rng1 (.int n) h = some (.items ((List.range n).map fun k => D.int (0 + (k : Nat))), h) := by
  simp only [rng1, h62, if_true, rngs, Int.toNat_natCast]
theorem wo_of {α : Type} {f : DH → Option (α × DH)} {h h' : DH} {d : α} {Q : α → DH → Prop} (q : f h = some (d, h')) (w : Q d h') : WO f h Q := wo_iff.mpr ⟨d, h', q, w⟩
theorem in62_nat {n : Nat} (hz : n ≤ Z) : in62 n = true := by
  have : Z = 16777216 := rfl
  exact below_iff.mpr (by omega)
/-- for i in range(n) -/
theorem for_rng {a : M D} {t : Tg} {b : MS} (Inv : Nat → DE → DH → Prop)
    (w : WE a e h (fun d h1 => ∃ n : Nat, d = .int n ∧ in62 n = true ∧ Inv 0 e h1 ∧ (∀ e h, Inv n e h → Q .next e h) ∧
      ∀ k e h, k < n → Inv k e h → ∃ e1, t.put (.int k) h e = some e1 ∧ WP b e1 h (Turned Q (Inv (k + 1)))) fun c p h1 => Q (.ex c p) e h1) : WP (forS (bnd a fun x => lift (rng1 x)) t b) e h Q := by
  refine wp_for ?_
  rw [we_bnd]
  refine w.mono (fun d h1 w => ?_) fun _ _ _ x => x
  obtain ⟨n, rfl, h62, i0, hd, step⟩ := w
  rw [we_lift]
  have z := rng1_nat (n := n) (h := h1) h62
  rw [wo_iff]
  refine ⟨_, _, z, ?_⟩
  have len : ((List.range n).map fun k => D.int (0 + (k : Nat))).length = n := by rw [List.length_map, List.length_range]
  refine ⟨_, rfl, Inv, i0, fun e h i => hd e h (by rw [len] at i; exact i), fun k d e h hk i => ?_⟩
  obtain ⟨rfl, hlt⟩ := rngs_turn hk
  obtain ⟨e1, p, q⟩ := step k e h hlt i
  exact ⟨e1, by rw [Int.zero_add]; exact p, q.mono fun f e h z => td_iff.mp z⟩
theorem src_tup {xs : List D} {h : DH} : srcD (.tup xs) h = some (.items xs, h) := rfl
/-- for x in a tuple, a text -/
theorem for_in {a : M D} {t : Tg} {b : MS} (Inv : Nat → DE → DH → Prop)
    (w : WE a e h (fun d h1 => ∃ xs, srcD d h1 = some (.items xs, h1) ∧ Inv 0 e h1 ∧ (∀ e h, Inv xs.length e h → Q .next e h) ∧
      ∀ k d e h, xs[k]? = some d → Inv k e h → ∃ e1, t.put d h e = some e1 ∧ WP b e1 h (Turned Q (Inv (k + 1)))) fun c p h1 => Q (.ex c p) e h1) : WP (forS (bnd a fun x => lift (srcD x)) t b) e h Q := by
  refine wp_for ?_
  rw [we_bnd]
  refine w.mono (fun d h1 w => ?_) fun _ _ _ x => x
  obtain ⟨xs, hs, i0, hd, step⟩ := w
  rw [we_lift]
  unfold WO
  rw [hs]
  refine ⟨_, rfl, Inv, i0, hd, fun k d e h hk i => ?_⟩
  obtain ⟨e1, p, q⟩ := step k d e h hk i
  exact ⟨e1, p, q.mono fun f e h z => td_iff.mp z⟩
end
/-- a comprehension's turn: what the element gives, then -/
def Elt (m : M D) (e1 : DE) (h2 : DH) (id : Nat) (acc : List D) (I : List D → DH → Prop) : Prop := WE m e1 h2 (fun x h3 => lstAt h3 id = some acc ∧ I (acc ++ [x]) (h3.set id (.lst (acc ++ [x])))) fun _ _ _ => False
section
variable {e : DE} {h : DH} {Q : D → DH → Prop} {X : Nat → D → DH → Prop}
/-- [.. for i in range(n)] -/
theorem lc_rngW {vs : List Nat} {a : M D} {t : Tg} {m : M D} (Inv : Nat → Nat → List D → DH → Prop)
    (w : WE a e h (fun d h1 => ∃ n : Nat, d = .int n ∧ n ≤ Z ∧ Inv h1.length 0 [] (h1 ++ [.lst []]) ∧ (∀ acc h, lstAt h h1.length = some acc → Inv h1.length n acc h → Q (.ref h1.length) h) ∧
      ∀ k acc h, k < n → lstAt h h1.length = some acc → Inv h1.length k acc h → ∃ e1, t.put (.int k) h (wipeE e vs) = some e1 ∧ Elt m e1 h h1.length acc (Inv h1.length (k + 1))) X) : WE (lcM vs (bnd a fun x => lift (rng1 x)) t (ret true) m) e h Q X := by
  refine we_lc ?_
  rw [we_bnd]
  refine w.mono (fun d h1 w => ?_) fun _ _ _ x => x
  obtain ⟨n, rfl, hz, i0, hd, step⟩ := w
  rw [we_lift]
  have z := rng1_nat (n := n) (h := h1) (in62_nat hz)
  rw [wo_iff]
  refine ⟨_, _, z, ?_⟩
  have len : ((List.range n).map fun k => D.int (0 + (k : Nat))).length = n := by rw [List.length_map, List.length_range]
  refine ⟨_, rfl, by rw [len]; exact hz, Inv h1.length, i0, fun acc h l i => hd acc h l (by rw [len] at i; exact i), fun k d acc h hk _ l _ i => ?_⟩
  obtain ⟨rfl, hlt⟩ := rngs_turn hk
  obtain ⟨e1, p, q⟩ := step k acc h hlt l i
  exact ⟨e1, by rw [Int.zero_add]; exact p, we_ret.mpr q⟩
/-- [.. for x in a tuple, a text] -/
theorem lc_inW {vs : List Nat} {a : M D} {t : Tg} {m : M D} (Inv : Nat → Nat → List D → DH → Prop)
    (w : WE a e h (fun d h1 => ∃ xs, srcD d h1 = some (.items xs, h1) ∧ xs.length ≤ Z ∧ Inv h1.length 0 [] (h1 ++ [.lst []]) ∧ (∀ acc h, lstAt h h1.length = some acc → Inv h1.length xs.length acc h → Q (.ref h1.length) h) ∧
      ∀ k d acc h, xs[k]? = some d → lstAt h h1.length = some acc → Inv h1.length k acc h → ∃ e1, t.put d h (wipeE e vs) = some e1 ∧ Elt m e1 h h1.length acc (Inv h1.length (k + 1))) X) : WE (lcM vs (bnd a fun x => lift (srcD x)) t (ret true) m) e h Q X := by
  refine we_lc ?_
  rw [we_bnd]
  refine w.mono (fun d h1 w => ?_) fun _ _ _ x => x
  obtain ⟨xs, hs, hz, i0, hd, step⟩ := w
  rw [we_lift]
  unfold WO
  rw [hs]
  refine ⟨_, rfl, hz, Inv h1.length, i0, hd, fun k d acc h hk _ l _ i => ?_⟩
  obtain ⟨e1, p, q⟩ := step k d acc h hk l i
  exact ⟨e1, p, we_ret.mpr q⟩
end
/-! # 30. Displays of dicts -/
section
variable {e : DE} {h : DH} {X : Nat → D → DH → Prop}
theorem we_dispL_nil {Q : List (D × D) → DH → Prop} : WE (dispL []) e h Q X ↔ Q [] h := we_ret
theorem we_dispL_cons {p : M D × M D} {r : List (M D × M D)} {Q : List (D × D) → DH → Prop} : WE (dispL (p :: r)) e h Q X ↔ WE p.1 e h (fun k h1 => WE p.2 e h1 (fun v h2 => WE (dispL r) e h2 (fun rs h3 => Q ((k, v) :: rs) h3) X) X) X := by
  show WE (bnd p.1 fun k => bnd p.2 fun v => bnd (dispL r) fun rs => ret ((k, v) :: rs)) e h Q X ↔ _
  simp only [we_bnd, we_ret]
theorem we_disp {ps : List (M D × M D)} {Q : D → DH → Prop} (w : WE (dispL ps) e (h ++ [.dk []]) (fun kvs h1 => h1[h.length]? = some (.dk []) ∧ ∃ l, dispKV kvs = some l ∧ l.length ≤ 15 ∧ Q (.ref h.length) (h1.set h.length (.dk (l.foldl (fun acc kv => putD acc kv.1 kv.2) [])))) fun _ _ _ => False) : WE (dispM ps) e h Q X := by
  obtain ⟨r, h1, q, w⟩ := w
  cases r with
  | ex c p => exact w.elim
  | ok kvs =>
    obtain ⟨w1, l, w2, w3, w4⟩ := w
    refine ⟨.ok (.ref h.length), h1.set h.length (.dk (l.foldl (fun (acc : List (Key × D)) (kv : Key × D) => putD acc kv.1 kv.2) [])), ?_, w4⟩
    unfold dispM
    rw [q]
    dsimp only
    rw [w1, w2]
    dsimp only
    rw [if_pos w3]
end
end Dd

set_option Elab.async false
set_option linter.all false
set_option maxRecDepth 100000
set_option maxHeartbeats 4000000
namespace Dk
open PySem PySem.Spec PyProof.Rows L2 Dd
def top (i : Nat) : Stmt := PySem.Challenge.pw_stripestack_k07_numbers_and_levels.main.body.getD i (.Pass ⟨0, 0, 0, 0⟩)
abbrev s0 : Stmt := top 6
def f0 : Fn := ⟨"put_number", ["number"], ["number", "written"], defScope s0, defBody s0⟩ -- put_number
abbrev s1 : Stmt := top 7
def f1 : Fn := ⟨"take_number", ["data", "at"], ["data", "at", "number", "place", "byte"], defScope s1, defBody s1⟩ -- take_number
abbrev s2 : Stmt := top 8
def f2 : Fn := ⟨"put_word", ["number"], ["number"], defScope s2, defBody s2⟩ -- put_word
abbrev s3 : Stmt := top 9
def f3 : Fn := ⟨"take_word", ["data", "at"], ["data", "at", "end", "word"], defScope s3, defBody s3⟩ -- take_word
abbrev s4 : Stmt := top 10
def f4 : Fn := ⟨"fold_sign", ["number"], ["number"], defScope s4, defBody s4⟩ -- fold_sign
abbrev s5 : Stmt := top 11
def f5 : Fn := ⟨"unfold_sign", ["number"], ["number"], defScope s5, defBody s5⟩ -- unfold_sign
abbrev s6 : Stmt := top 12
def f6 : Fn := ⟨"width_of", ["most"], ["most"], defScope s6, defBody s6⟩ -- width_of
abbrev s7 : Stmt := top 13
def f7 : Fn := ⟨"pack", ["numbers", "width"], ["numbers", "width", "packed", "held", "filled", "number"], defScope s7, defBody s7⟩ -- pack
abbrev s8 : Stmt := top 14
def f8 : Fn := ⟨"unpack", ["data", "at", "count", "width"], ["data", "at", "count", "width", "end", "lowest", "numbers", "held", "filled", "byte"], defScope s8, defBody s8⟩ -- unpack
abbrev s9 : Stmt := top 18
def f9 : Fn := ⟨"put_levels", ["numbers", "most"], ["numbers", "most", "width", "written", "done", "at", "end"], defScope s9, defBody s9⟩ -- put_levels
abbrev s10 : Stmt := top 19
def f10 : Fn := ⟨"_end_of_equals", ["numbers", "at"], ["numbers", "at", "end"], defScope s10, defBody s10⟩ -- _end_of_equals
abbrev s11 : Stmt := top 20
def f11 : Fn := ⟨"_put_pieces", ["numbers", "width"], ["numbers", "width", "written", "at", "piece"], defScope s11, defBody s11⟩ -- _put_pieces
abbrev s12 : Stmt := top 21
def f12 : Fn := ⟨"take_levels", ["data", "at", "count", "most"], ["data", "at", "count", "most", "width", "numbers", "head", "length", "piece", "level"], defScope s12, defBody s12⟩ -- take_levels
abbrev s13 : Stmt := top 23
def f13 : Fn := ⟨"_law_cell", ["script", "k"], ["script", "k"], defScope s13, defBody s13⟩ -- _law_cell
abbrev s14 : Stmt := top 24
def f14 : Fn := ⟨"_law_numbers", ["cell", "many"], ["cell", "many", "found", "rest", "k"], defScope s14, defBody s14⟩ -- _law_numbers
abbrev s15 : Stmt := top 25
def f15 : Fn := ⟨"_law_number", ["number"], ["number", "found", "k"], defScope s15, defBody s15⟩ -- _law_number
abbrev s16 : Stmt := top 26
def f16 : Fn := ⟨"_law_word", ["number"], ["number"], defScope s16, defBody s16⟩ -- _law_word
abbrev s17 : Stmt := top 27
def f17 : Fn := ⟨"_law_width", ["most"], ["most", "width", "k"], defScope s17, defBody s17⟩ -- _law_width
abbrev s18 : Stmt := top 28
def f18 : Fn := ⟨"_law_pack", ["numbers", "width"], ["numbers", "width", "bits", "number", "k", "found", "total", "j"], defScope s18, defBody s18⟩ -- _law_pack
abbrev s19 : Stmt := top 29
def f19 : Fn := ⟨"_law_run", ["numbers", "at", "most"], ["numbers", "at", "most", "count", "k"], defScope s19, defBody s19⟩ -- _law_run
abbrev s20 : Stmt := top 30
def f20 : Fn := ⟨"_law_levels", ["numbers", "most"], ["numbers", "most", "width", "found", "at", "length", "end"], defScope s20, defBody s20⟩ -- _law_levels
abbrev s21 : Stmt := top 31
def f21 : Fn := ⟨"_law_refused", ["kind", "data", "count", "most"], ["kind", "data", "count", "most"], defScope s21, defBody s21⟩ -- _law_refused
abbrev s22 : Stmt := top 32
def f22 : Fn := ⟨"_law_row", ["cell", "most"], ["cell", "most", "numbers", "row", "k", "value"], defScope s22, defBody s22⟩ -- _law_row
abbrev s23 : Stmt := top 33
def f23 : Fn := ⟨"law", ["script"], ["script", "number", "due", "word", "signed", "folded", "width", "size", "k", "numbers", "packed", "most", "row", "levels", "one"], defScope s23, defBody s23⟩ -- law
def pg : Pg where
  fns := [f0, f1, f2, f3, f4, f5, f6, f7, f8, f9, f10, f11, f12, f13, f14, f15, f16, f17, f18, f19, f20, f21, f22, f23]
  con := [("MOST_BYTES", .int 5), ("WORD_BYTES", .int 4), ("LEAST_RUN", .int 4), ("MOST_PIECE", .int 32)]
  exc := [("BadFile", "part")]
theorem o0 : FnOf f0 s0 := ⟨rfl, rfl, ⟨rfl, rfl, rfl, by decide +kernel, rfl, by decide +kernel, by decide +kernel⟩, fun _ _ _ _ _ _ us hl => match us, hl with | [_], _ => rfl⟩
theorem o1 : FnOf f1 s1 := ⟨rfl, rfl, ⟨rfl, rfl, rfl, by decide +kernel, rfl, by decide +kernel, by decide +kernel⟩, fun _ _ _ _ _ _ us hl => match us, hl with | [_, _], _ => rfl⟩
theorem o2 : FnOf f2 s2 := ⟨rfl, rfl, ⟨rfl, rfl, rfl, by decide +kernel, rfl, by decide +kernel, by decide +kernel⟩, fun _ _ _ _ _ _ us hl => match us, hl with | [_], _ => rfl⟩
theorem o3 : FnOf f3 s3 := ⟨rfl, rfl, ⟨rfl, rfl, rfl, by decide +kernel, rfl, by decide +kernel, by decide +kernel⟩, fun _ _ _ _ _ _ us hl => match us, hl with | [_, _], _ => rfl⟩
theorem o4 : FnOf f4 s4 := ⟨rfl, rfl, ⟨rfl, rfl, rfl, by decide +kernel, rfl, by decide +kernel, by decide +kernel⟩, fun _ _ _ _ _ _ us hl => match us, hl with | [_], _ => rfl⟩
theorem o5 : FnOf f5 s5 := ⟨rfl, rfl, ⟨rfl, rfl, rfl, by decide +kernel, rfl, by decide +kernel, by decide +kernel⟩, fun _ _ _ _ _ _ us hl => match us, hl with | [_], _ => rfl⟩
theorem o6 : FnOf f6 s6 := ⟨rfl, rfl, ⟨rfl, rfl, rfl, by decide +kernel, rfl, by decide +kernel, by decide +kernel⟩, fun _ _ _ _ _ _ us hl => match us, hl with | [_], _ => rfl⟩
theorem o7 : FnOf f7 s7 := ⟨rfl, rfl, ⟨rfl, rfl, rfl, by decide +kernel, rfl, by decide +kernel, by decide +kernel⟩, fun _ _ _ _ _ _ us hl => match us, hl with | [_, _], _ => rfl⟩
theorem o8 : FnOf f8 s8 := ⟨rfl, rfl, ⟨rfl, rfl, rfl, by decide +kernel, rfl, by decide +kernel, by decide +kernel⟩, fun _ _ _ _ _ _ us hl => match us, hl with | [_, _, _, _], _ => rfl⟩
theorem o9 : FnOf f9 s9 := ⟨rfl, rfl, ⟨rfl, rfl, rfl, by decide +kernel, rfl, by decide +kernel, by decide +kernel⟩, fun _ _ _ _ _ _ us hl => match us, hl with | [_, _], _ => rfl⟩
theorem o10 : FnOf f10 s10 := ⟨rfl, rfl, ⟨rfl, rfl, rfl, by decide +kernel, rfl, by decide +kernel, by decide +kernel⟩, fun _ _ _ _ _ _ us hl => match us, hl with | [_, _], _ => rfl⟩
theorem o11 : FnOf f11 s11 := ⟨rfl, rfl, ⟨rfl, rfl, rfl, by decide +kernel, rfl, by decide +kernel, by decide +kernel⟩, fun _ _ _ _ _ _ us hl => match us, hl with | [_, _], _ => rfl⟩
theorem o12 : FnOf f12 s12 := ⟨rfl, rfl, ⟨rfl, rfl, rfl, by decide +kernel, rfl, by decide +kernel, by decide +kernel⟩, fun _ _ _ _ _ _ us hl => match us, hl with | [_, _, _, _], _ => rfl⟩
theorem o13 : FnOf f13 s13 := ⟨rfl, rfl, ⟨rfl, rfl, rfl, by decide +kernel, rfl, by decide +kernel, by decide +kernel⟩, fun _ _ _ _ _ _ us hl => match us, hl with | [_, _], _ => rfl⟩
theorem o14 : FnOf f14 s14 := ⟨rfl, rfl, ⟨rfl, rfl, rfl, by decide +kernel, rfl, by decide +kernel, by decide +kernel⟩, fun _ _ _ _ _ _ us hl => match us, hl with | [_, _], _ => rfl⟩
theorem o15 : FnOf f15 s15 := ⟨rfl, rfl, ⟨rfl, rfl, rfl, by decide +kernel, rfl, by decide +kernel, by decide +kernel⟩, fun _ _ _ _ _ _ us hl => match us, hl with | [_], _ => rfl⟩
theorem o16 : FnOf f16 s16 := ⟨rfl, rfl, ⟨rfl, rfl, rfl, by decide +kernel, rfl, by decide +kernel, by decide +kernel⟩, fun _ _ _ _ _ _ us hl => match us, hl with | [_], _ => rfl⟩
theorem o17 : FnOf f17 s17 := ⟨rfl, rfl, ⟨rfl, rfl, rfl, by decide +kernel, rfl, by decide +kernel, by decide +kernel⟩, fun _ _ _ _ _ _ us hl => match us, hl with | [_], _ => rfl⟩
theorem o18 : FnOf f18 s18 := ⟨rfl, rfl, ⟨rfl, rfl, rfl, by decide +kernel, rfl, by decide +kernel, by decide +kernel⟩, fun _ _ _ _ _ _ us hl => match us, hl with | [_, _], _ => rfl⟩
theorem o19 : FnOf f19 s19 := ⟨rfl, rfl, ⟨rfl, rfl, rfl, by decide +kernel, rfl, by decide +kernel, by decide +kernel⟩, fun _ _ _ _ _ _ us hl => match us, hl with | [_, _, _], _ => rfl⟩
theorem o20 : FnOf f20 s20 := ⟨rfl, rfl, ⟨rfl, rfl, rfl, by decide +kernel, rfl, by decide +kernel, by decide +kernel⟩, fun _ _ _ _ _ _ us hl => match us, hl with | [_, _], _ => rfl⟩
theorem o21 : FnOf f21 s21 := ⟨rfl, rfl, ⟨rfl, rfl, rfl, by decide +kernel, rfl, by decide +kernel, by decide +kernel⟩, fun _ _ _ _ _ _ us hl => match us, hl with | [_, _, _, _], _ => rfl⟩
theorem o22 : FnOf f22 s22 := ⟨rfl, rfl, ⟨rfl, rfl, rfl, by decide +kernel, rfl, by decide +kernel, by decide +kernel⟩, fun _ _ _ _ _ _ us hl => match us, hl with | [_, _], _ => rfl⟩
theorem o23 : FnOf f23 s23 := ⟨rfl, rfl, ⟨rfl, rfl, rfl, by decide +kernel, rfl, by decide +kernel, by decide +kernel⟩, fun _ _ _ _ _ _ us hl => match us, hl with | [_], _ => rfl⟩
end Dk

set_option Elab.async false
set_option linter.all false
set_option maxRecDepth 100000
set_option maxHeartbeats 4000000
namespace Dk
open PySem PySem.Spec PyProof.Rows L2 Dd
def augAdd : D → D → DH → Option (D × DH) := augI (fun _ _ => true) fun i j => i + j
def augSub : D → D → DH → Option (D × DH) := augI (fun _ _ => true) fun i j => i - j
def augOr : D → D → DH → Option (D × DH) := augI (fun _ _ => true) PySem.Builtin.bitOr
def augShr : D → D → DH → Option (D × DH) := augI (fun _ j => leI 0 j) shrI
def b0 (F : Call) : MS := seq (asg (.nm 1) (opN lstM [])) (
seq (whileL (tst (op2 gtD (var 0) (ret (.int 127))))
(seq (drop (mthM .append (var 1) [op2 orD (op2 andD (var 0) (ret (.int 127))) (ret (.int 128))])) (seq (augS augShr 0 (ret (.int 7))) (skip))) whileFuel) (
seq (drop (mthM .append (var 1) [var 0])) (
seq (retS (var 1)) (
skip))))
theorem e0 (F : Call) : (sem F fuel).B (pg.ce f0) f0.body = b0 F := by kernel_rfl
def b1 (F : Call) : MS := seq (asg (.nm 2) (ret (.int 0))) (
seq (forS (bnd (ret (.int 5)) fun x => lift (rng1 x)) (.nm 3)
(seq (ifS (tst (op2 geD (op2 addD (var 1) (var 3)) (opN (bltD .len) [var 0])))
  (seq (raiS 0 (ret (.str "number cut short"))) (skip))
  (skip)) (seq (asg (.nm 4) (op2 ixD (var 0) (op2 addD (var 1) (var 3)))) (seq (augS augOr 2 (op2 shlD (op2 andD (var 4) (ret (.int 127))) (op2 mulD (ret (.int 7)) (var 3)))) (seq (ifS (tst (op2 ltD (var 4) (ret (.int 128))))
  (seq (ifS (andT (tst (op2 eqD (var 4) (ret (.int 0)))) (tst (op2 gtD (var 3) (ret (.int 0)))))
    (seq (raiS 0 (ret (.str "number with a needless byte"))) (skip))
    (skip)) (seq (retS (opN tupM [var 2, op2 addD (op2 addD (var 1) (var 3)) (ret (.int 1))])) (skip)))
  (skip)) (skip)))))) (
seq (raiS 0 (ret (.str "number too long"))) (
skip)))
theorem e1 (F : Call) : (sem F fuel).B (pg.ce f1) f1.body = b1 F := by kernel_rfl
def b2 (F : Call) : MS := seq (retS (opN lstM [op2 andD (var 0) (ret (.int 255)), op2 andD (op2 shrD (var 0) (ret (.int 8))) (ret (.int 255)), op2 andD (op2 shrD (var 0) (ret (.int 16))) (ret (.int 255)), op2 andD (op2 shrD (var 0) (ret (.int 24))) (ret (.int 255))])) (
skip)
theorem e2 (F : Call) : (sem F fuel).B (pg.ce f2) f2.body = b2 F := by kernel_rfl
def b3 (F : Call) : MS := seq (asg (.nm 2) (op2 addD (var 1) (ret (.int 4)))) (
seq (ifS (tst (op2 gtD (var 2) (opN (bltD .len) [var 0])))
(seq (raiS 0 (ret (.str "word cut short"))) (skip))
(skip)) (
seq (asg (.nm 3) (op2 orD (op2 orD (op2 orD (op2 ixD (var 0) (var 1)) (op2 shlD (op2 ixD (var 0) (op2 addD (var 1) (ret (.int 1)))) (ret (.int 8)))) (op2 shlD (op2 ixD (var 0) (op2 addD (var 1) (ret (.int 2)))) (ret (.int 16)))) (op2 shlD (op2 ixD (var 0) (op2 addD (var 1) (ret (.int 3)))) (ret (.int 24))))) (
seq (retS (opN tupM [var 3, var 2])) (
skip))))
theorem e3 (F : Call) : (sem F fuel).B (pg.ce f3) f3.body = b3 F := by kernel_rfl
def b4 (F : Call) : MS := seq (ifS (tst (op2 ltD (var 0) (ret (.int 0))))
(seq (retS (op2 subD (op2 mulD (op1 negD (ret (.int 2))) (var 0)) (ret (.int 1)))) (skip))
(skip)) (
seq (retS (op2 mulD (ret (.int 2)) (var 0))) (
skip))
theorem e4 (F : Call) : (sem F fuel).B (pg.ce f4) f4.body = b4 F := by kernel_rfl
def b5 (F : Call) : MS := seq (ifS (tst (op2 eqD (op2 andD (var 0) (ret (.int 1))) (ret (.int 1))))
(seq (retS (op2 subD (op1 negD (op2 fdivD (var 0) (ret (.int 2)))) (ret (.int 1)))) (skip))
(skip)) (
seq (retS (op2 fdivD (var 0) (ret (.int 2)))) (
skip))
theorem e5 (F : Call) : (sem F fuel).B (pg.ce f5) f5.body = b5 F := by kernel_rfl
def b6 (F : Call) : MS := seq (retS (op1 bitsD (var 0))) (
skip)
theorem e6 (F : Call) : (sem F fuel).B (pg.ce f6) f6.body = b6 F := by kernel_rfl
def b7 (F : Call) : MS := seq (asg (.nm 2) (opN lstM [])) (
seq (asg (.nm 3) (ret (.int 0))) (
seq (asg (.nm 4) (ret (.int 0))) (
seq (forS (bnd (var 0) fun x => lift (srcD x)) (.nm 5)
(seq (augS augOr 3 (op2 shlD (var 5) (var 4))) (seq (augS augAdd 4 (var 1)) (seq (whileL (tst (op2 geD (var 4) (ret (.int 8))))
  (seq (drop (mthM .append (var 2) [op2 andD (var 3) (ret (.int 255))])) (seq (augS augShr 3 (ret (.int 8))) (seq (augS augSub 4 (ret (.int 8))) (skip)))) whileFuel) (skip))))) (
seq (ifS (tst (op2 gtD (var 4) (ret (.int 0))))
(seq (drop (mthM .append (var 2) [op2 andD (var 3) (ret (.int 255))])) (skip))
(skip)) (
seq (retS (var 2)) (
skip))))))
theorem e7 (F : Call) : (sem F fuel).B (pg.ce f7) f7.body = b7 F := by kernel_rfl
def b8 (F : Call) : MS := seq (ifS (tst (op2 eqD (var 3) (ret (.int 0))))
(seq (retS (opN tupM [op2 mulD (opN lstM [ret (.int 0)]) (var 2), var 1])) (skip))
(skip)) (
seq (asg (.nm 4) (op2 addD (var 1) (op2 fdivD (op2 addD (op2 mulD (var 2) (var 3)) (ret (.int 7))) (ret (.int 8))))) (
seq (ifS (tst (op2 gtD (var 4) (opN (bltD .len) [var 0])))
(seq (raiS 0 (ret (.str "packed numbers cut short"))) (skip))
(skip)) (
seq (asg (.nm 5) (op2 subD (op2 shlD (ret (.int 1)) (var 3)) (ret (.int 1)))) (
seq (asg (.nm 6) (opN lstM [])) (
seq (asg (.nm 7) (ret (.int 0))) (
seq (asg (.nm 8) (ret (.int 0))) (
seq (forS (bnd (sliceM (var 0) (intOf (var 1)) (intOf (var 4))) fun x => lift (srcD x)) (.nm 9)
(seq (augS augOr 7 (op2 shlD (var 9) (var 8))) (seq (augS augAdd 8 (ret (.int 8))) (seq (whileL (andT (tst (op2 geD (var 8) (var 3))) (tst (op2 ltD (opN (bltD .len) [var 6]) (var 2))))
  (seq (drop (mthM .append (var 6) [op2 andD (var 7) (var 5)])) (seq (augS augShr 7 (var 3)) (seq (augS augSub 8 (var 3)) (skip)))) whileFuel) (skip))))) (
seq (ifS (tst (op2 neD (var 7) (ret (.int 0))))
(seq (raiS 0 (ret (.str "bits left over"))) (skip))
(skip)) (
seq (retS (opN tupM [var 6, var 4])) (
skip))))))))))
theorem e8 (F : Call) : (sem F fuel).B (pg.ce f8) f8.body = b8 F := by kernel_rfl
def b9 (F : Call) : MS := seq (asg (.nm 2) (callM F 6 [var 1])) (
seq (ifS (tst (op2 eqD (var 2) (ret (.int 0))))
(seq (retS (opN lstM [])) (skip))
(skip)) (
seq (asg (.nm 3) (opN lstM [])) (
seq (asg (.nm 4) (ret (.int 0))) (
seq (asg (.nm 5) (ret (.int 0))) (
seq (whileL (tst (op2 ltD (var 5) (opN (bltD .len) [var 0])))
(seq (asg (.nm 6) (callM F 10 [var 0, var 5])) (seq (ifS (tst (op2 geD (op2 subD (var 6) (var 5)) (ret (.int 4))))
  (seq (drop (mthM .extend (var 3) [callM F 11 [sliceM (var 0) (intOf (var 4)) (intOf (var 5)), var 2]])) (seq (drop (mthM .extend (var 3) [op2 addD (callM F 0 [op2 mulD (ret (.int 2)) (op2 subD (var 6) (var 5))]) (callM F 0 [op2 ixD (var 0) (var 5)])])) (seq (asg (.nm 4) (var 6)) (skip))))
  (skip)) (seq (asg (.nm 5) (var 6)) (skip)))) whileFuel) (
seq (drop (mthM .extend (var 3) [callM F 11 [sliceM (var 0) (intOf (var 4)) (ret none), var 2]])) (
seq (retS (var 3)) (
skip))))))))
theorem e9 (F : Call) : (sem F fuel).B (pg.ce f9) f9.body = b9 F := by kernel_rfl
def b10 (F : Call) : MS := seq (asg (.nm 2) (op2 addD (var 1) (ret (.int 1)))) (
seq (whileL (andT (tst (op2 ltD (var 2) (opN (bltD .len) [var 0]))) (tst (op2 eqD (op2 ixD (var 0) (var 2)) (op2 ixD (var 0) (var 1)))))
(seq (augS augAdd 2 (ret (.int 1))) (skip)) whileFuel) (
seq (retS (var 2)) (
skip)))
theorem e10 (F : Call) : (sem F fuel).B (pg.ce f10) f10.body = b10 F := by kernel_rfl
def b11 (F : Call) : MS := seq (asg (.nm 2) (opN lstM [])) (
seq (forS (bnd (ret (.int 0)) fun x => bnd (opN (bltD .len) [var 0]) fun y => bnd (ret (.int 32)) fun z => lift (rng3 x y z)) (.nm 3)
(seq (asg (.nm 4) (sliceM (var 0) (intOf (var 3)) (intOf (op2 addD (var 3) (ret (.int 32)))))) (seq (drop (mthM .extend (var 2) [op2 addD (callM F 0 [op2 addD (op2 mulD (ret (.int 2)) (opN (bltD .len) [var 4])) (ret (.int 1))]) (callM F 7 [var 4, var 1])])) (skip)))) (
seq (retS (var 2)) (
skip)))
theorem e11 (F : Call) : (sem F fuel).B (pg.ce f11) f11.body = b11 F := by kernel_rfl
def b12 (F : Call) : MS := seq (asg (.nm 4) (callM F 6 [var 3])) (
seq (ifS (tst (op2 eqD (var 4) (ret (.int 0))))
(seq (retS (opN tupM [op2 mulD (opN lstM [ret (.int 0)]) (var 2), var 1])) (skip))
(skip)) (
seq (asg (.nm 5) (opN lstM [])) (
seq (whileL (tst (op2 ltD (opN (bltD .len) [var 5]) (var 2)))
(seq (asg (.tp [6, 1]) (callM F 1 [var 0, var 1])) (seq (asg (.nm 7) (op2 fdivD (var 6) (ret (.int 2)))) (seq (ifS (orT (tst (op2 eqD (var 7) (ret (.int 0)))) (tst (op2 gtD (var 7) (op2 subD (var 2) (opN (bltD .len) [var 5])))))
  (seq (raiS 0 (ret (.str "length of levels"))) (skip))
  (skip)) (seq (ifS (tst (op2 eqD (op2 andD (var 6) (ret (.int 1))) (ret (.int 1))))
  (seq (asg (.tp [8, 1]) (callM F 8 [var 0, var 1, var 7, var 4])) (skip))
  (seq (asg (.tp [9, 1]) (callM F 1 [var 0, var 1])) (seq (asg (.nm 8) (op2 mulD (opN lstM [var 9]) (var 7))) (skip)))) (seq (ifS (tst (op2 gtD (opN (bltD .max) [var 8]) (var 3)))
  (seq (raiS 0 (ret (.str "level too great"))) (skip))
  (skip)) (seq (drop (mthM .extend (var 5) [var 8])) (skip))))))) whileFuel) (
seq (retS (opN tupM [var 5, var 1])) (
skip)))))
theorem e12 (F : Call) : (sem F fuel).B (pg.ce f12) f12.body = b12 F := by kernel_rfl
def b13 (F : Call) : MS := seq (ifS (tst (op2 ltD (var 1) (opN (bltD .len) [var 0])))
(seq (retS (opN (bltD .int) [op2 ixD (var 0) (var 1)])) (skip))
(skip)) (
seq (retS (ret (.int 0))) (
skip))
theorem e13 (F : Call) : (sem F fuel).B (pg.ce f13) f13.body = b13 F := by kernel_rfl
def b14 (F : Call) : MS := seq (asg (.nm 2) (opN lstM [])) (
seq (asg (.nm 3) (opN (bltD .abs) [var 0])) (
seq (ifS (tst (op2 geD (var 3) (ret (.int 1000000000000000000))))
(seq (forS (bnd (var 1) fun x => lift (rng1 x)) (.nm 4)
  (seq (drop (mthM .append (var 2) [op2 modD (opN (bltD .int) [var 3]) (ret (.int 1048576))])) (seq (asg (.nm 3) (op2 fdivD (var 3) (ret (.int 1048576)))) (skip)))) (seq (retS (var 2)) (skip)))
(skip)) (
seq (forS (bnd (var 1) fun x => lift (rng1 x)) (.nm 4)
(seq (asg (.nm 3) (op2 modD (opN (bltD .int) [op2 addD (op2 addD (op2 mulD (var 3) (ret (.int 48271))) (op2 mulD (var 4) (ret (.int 7919)))) (ret (.int 11))]) (ret (.int 2147483647)))) (seq (drop (mthM .append (var 2) [op2 modD (op2 modD (opN (bltD .int) [op2 mulD (var 3) (ret (.int 69621))]) (ret (.int 2147483629))) (ret (.int 1048576))])) (skip)))) (
seq (retS (var 2)) (
skip)))))
theorem e14 (F : Call) : (sem F fuel).B (pg.ce f14) f14.body = b14 F := by kernel_rfl
def b15 (F : Call) : MS := seq (asg (.nm 1) (opN lstM [])) (
seq (forS (bnd (ret (.int 5)) fun x => lift (rng1 x)) (.nm 2)
(seq (ifS (tst (op2 geD (var 0) (ret (.int 128))))
  (seq (drop (mthM .append (var 1) [op2 addD (op2 modD (opN (bltD .int) [var 0]) (ret (.int 128))) (ret (.int 128))])) (seq (asg (.nm 0) (op2 fdivD (var 0) (ret (.int 128)))) (skip)))
  (skip)) (skip))) (
seq (retS (op2 addD (var 1) (opN lstM [var 0]))) (
skip)))
theorem e15 (F : Call) : (sem F fuel).B (pg.ce f15) f15.body = b15 F := by kernel_rfl
def b16 (F : Call) : MS := seq (asg (.nm 0) (op2 modD (opN (bltD .int) [var 0]) (ret (.int 4294967296)))) (
seq (retS (opN lstM [op2 modD (opN (bltD .int) [var 0]) (ret (.int 256)), op2 modD (opN (bltD .int) [op2 fdivD (var 0) (ret (.int 256))]) (ret (.int 256)), op2 modD (opN (bltD .int) [op2 fdivD (var 0) (ret (.int 65536))]) (ret (.int 256)), op2 fdivD (var 0) (ret (.int 16777216))])) (
skip))
theorem e16 (F : Call) : (sem F fuel).B (pg.ce f16) f16.body = b16 F := by kernel_rfl
def b17 (F : Call) : MS := seq (asg (.nm 1) (ret (.int 0))) (
seq (forS (bnd (ret (.int 40)) fun x => lift (rng1 x)) (.nm 2)
(seq (ifS (tst (op2 gtD (var 0) (ret (.int 0))))
  (seq (asg (.nm 1) (op2 addD (var 1) (ret (.int 1)))) (seq (asg (.nm 0) (op2 fdivD (var 0) (ret (.int 2)))) (skip)))
  (skip)) (skip))) (
seq (retS (var 1)) (
skip)))
theorem e17 (F : Call) : (sem F fuel).B (pg.ce f17) f17.body = b17 F := by kernel_rfl
def b18 (F : Call) : MS := seq (asg (.nm 2) (opN lstM [])) (
seq (forS (bnd (var 0) fun x => lift (srcD x)) (.nm 3)
(seq (forS (bnd (var 1) fun x => lift (rng1 x)) (.nm 4)
  (seq (drop (mthM .append (var 2) [op2 modD (opN (bltD .int) [var 3]) (ret (.int 2))])) (seq (asg (.nm 3) (op2 fdivD (var 3) (ret (.int 2)))) (skip)))) (skip))) (
seq (asg (.nm 5) (opN lstM [])) (
seq (forS (bnd (op2 fdivD (op2 addD (opN (bltD .len) [var 2]) (ret (.int 7))) (ret (.int 8))) fun x => lift (rng1 x)) (.nm 4)
(seq (asg (.nm 6) (ret (.int 0))) (seq (forS (bnd (ret (.int 8)) fun x => lift (rng1 x)) (.nm 7)
  (seq (ifS (tst (op2 ltD (op2 subD (op2 addD (op2 mulD (ret (.int 8)) (var 4)) (ret (.int 7))) (var 7)) (opN (bltD .len) [var 2])))
    (seq (asg (.nm 6) (op2 addD (op2 mulD (var 6) (ret (.int 2))) (op2 ixD (var 2) (op2 subD (op2 addD (op2 mulD (ret (.int 8)) (var 4)) (ret (.int 7))) (var 7))))) (skip))
    (seq (asg (.nm 6) (op2 mulD (var 6) (ret (.int 2)))) (skip))) (skip))) (seq (drop (mthM .append (var 5) [var 6])) (skip))))) (
seq (retS (var 5)) (
skip)))))
theorem e18 (F : Call) : (sem F fuel).B (pg.ce f18) f18.body = b18 F := by kernel_rfl
def b19 (F : Call) : MS := seq (asg (.nm 3) (ret (.int 0))) (
seq (forS (bnd (var 1) fun x => bnd (opN (bltD .min) [opN (bltD .len) [var 0], op2 addD (var 1) (var 2)]) fun y => lift (rng2 x y)) (.nm 4)
(seq (ifS (tst (op2 neD (op2 ixD (var 0) (var 4)) (op2 ixD (var 0) (var 1))))
  (seq (fun e h => some (.brk, e, h)) (skip))
  (skip)) (seq (asg (.nm 3) (op2 addD (var 3) (ret (.int 1)))) (skip)))) (
seq (retS (var 3)) (
skip)))
theorem e19 (F : Call) : (sem F fuel).B (pg.ce f19) f19.body = b19 F := by kernel_rfl
def b20 (F : Call) : MS := seq (asg (.nm 2) (callM F 17 [var 1])) (
seq (asg (.nm 3) (opN lstM [])) (
seq (asg (.nm 4) (ret (.int 0))) (
seq (whileL (andT (tst (op2 ltD (var 4) (opN (bltD .len) [var 0]))) (tst (op2 gtD (var 2) (ret (.int 0)))))
(seq (asg (.nm 5) (callM F 19 [var 0, var 4, opN (bltD .len) [var 0]])) (seq (ifS (tst (op2 geD (var 5) (ret (.int 4))))
  (seq (asg (.nm 3) (op2 addD (op2 addD (var 3) (callM F 15 [op2 mulD (ret (.int 2)) (var 5)])) (callM F 15 [op2 ixD (var 0) (var 4)]))) (seq (asg (.nm 4) (op2 addD (var 4) (var 5))) (skip)))
  (seq (asg (.nm 6) (op2 addD (var 4) (ret (.int 1)))) (seq (whileL (andT (tst (op2 ltD (var 6) (opN (bltD .len) [var 0]))) (andT (tst (op2 ltD (op2 subD (var 6) (var 4)) (ret (.int 32)))) (tst (op2 ltD (callM F 19 [var 0, var 6, ret (.int 4)]) (ret (.int 4))))))
    (seq (asg (.nm 6) (op2 addD (var 6) (ret (.int 1)))) (skip)) whileFuel) (seq (asg (.nm 3) (op2 addD (op2 addD (var 3) (callM F 15 [op2 addD (op2 mulD (ret (.int 2)) (op2 subD (var 6) (var 4))) (ret (.int 1))])) (callM F 18 [sliceM (var 0) (intOf (var 4)) (intOf (var 6)), var 2]))) (seq (asg (.nm 4) (var 6)) (skip)))))) (skip))) whileFuel) (
seq (retS (var 3)) (
skip)))))
theorem e20 (F : Call) : (sem F fuel).B (pg.ce f20) f20.body = b20 F := by kernel_rfl
def b21 (F : Call) : MS := seq (tryS (seq (ifS (tst (op2 eqD (var 0) (ret (.int 0))))
  (seq (drop (callM F 1 [var 1, ret (.int 0)])) (skip))
  (seq (ifS (tst (op2 eqD (var 0) (ret (.int 1))))
    (seq (drop (callM F 12 [var 1, ret (.int 0), var 2, var 3])) (skip))
    (seq (ifS (tst (op2 eqD (var 0) (ret (.int 2))))
      (seq (drop (callM F 8 [var 1, ret (.int 0), var 2, var 3])) (skip))
      (seq (drop (callM F 3 [var 1, ret (.int 0)])) (skip))) (skip))) (skip))) (skip)) 0 none
(seq (retS (ret (.bl true))) (skip))) (
seq (retS (ret (.bl false))) (
skip))
theorem e21 (F : Call) : (sem F fuel).B (pg.ce f21) f21.body = b21 F := by kernel_rfl
def b22 (F : Call) : MS := seq (asg (.nm 2) (callM F 14 [var 0, ret (.int 30)])) (
seq (asg (.nm 3) (opN lstM [])) (
seq (forS (bnd (op2 modD (opN (bltD .int) [op2 ixD (var 2) (ret (.int 0))]) (ret (.int 24))) fun x => lift (rng1 x)) (.nm 4)
(seq (asg (.nm 5) (op2 modD (opN (bltD .int) [op2 fdivD (op2 ixD (var 2) (op2 addD (ret (.int 1)) (var 4))) (ret (.int 16))]) (op2 addD (var 1) (ret (.int 1))))) (seq (asg (.nm 3) (op2 addD (var 3) (op2 mulD (opN lstM [var 5]) (op2 ixD (opN lstM [ret (.int 1), ret (.int 1), ret (.int 2), ret (.int 3), ret (.int 4), ret (.int 5), ret (.int 9), ret (.int 1)]) (op2 modD (opN (bltD .int) [op2 ixD (var 2) (op2 addD (ret (.int 1)) (var 4))]) (ret (.int 8))))))) (skip)))) (
seq (retS (var 3)) (
skip))))
theorem e22 (F : Call) : (sem F fuel).B (pg.ce f22) f22.body = b22 F := by kernel_rfl
def b23 (F : Call) : MS := seq (asg (.nm 1) (op2 modD (opN (bltD .abs) [callM F 13 [var 0, ret (.int 0)]]) (ret (.int 34359738368)))) (
seq (asg (.nm 2) (callM F 15 [var 1])) (
seq (ifS (orT (tst (op2 neD (callM F 0 [var 1]) (var 2))) (tst (op2 neD (callM F 1 [op2 addD (op2 addD (opN lstM [ret (.int 9)]) (var 2)) (opN lstM [ret (.int 200), ret (.int 3)]), ret (.int 1)]) (opN tupM [var 1, op2 addD (ret (.int 1)) (opN (bltD .len) [var 2])]))))
(seq (retS (ret (.bl false))) (skip))
(skip)) (
seq (ifS (orT (notT (tru truD (callM F 21 [ret (.int 0), sliceM (var 2) (ret none) (intOf (op2 subD (opN (bltD .len) [var 2]) (ret (.int 1)))), ret (.int 0), ret (.int 0)]))) (orT (notT (tru truD (callM F 21 [ret (.int 0), opN lstM [ret (.int 128), ret (.int 0)], ret (.int 0), ret (.int 0)]))) (notT (tru truD (callM F 21 [ret (.int 0), op2 mulD (opN lstM [ret (.int 255)]) (ret (.int 6)), ret (.int 0), ret (.int 0)])))))
(seq (retS (ret (.bl false))) (skip))
(skip)) (
seq (asg (.nm 3) (callM F 13 [var 0, ret (.int 1)])) (
seq (ifS (orT (tst (op2 neD (callM F 2 [var 3]) (callM F 16 [var 3]))) (tst (op2 neD (callM F 3 [op2 addD (callM F 16 [var 3]) (opN lstM [ret (.int 1)]), ret (.int 0)]) (opN tupM [op2 modD (opN (bltD .int) [var 3]) (ret (.int 4294967296)), ret (.int 4)]))))
(seq (retS (ret (.bl false))) (skip))
(skip)) (
seq (asg (.nm 4) (op2 subD (op2 modD (opN (bltD .int) [var 3]) (ret (.int 8589934592))) (ret (.int 4294967296)))) (
seq (asg (.nm 5) (op2 ixD (opN lstM [op2 mulD (ret (.int 2)) (var 4), op2 subD (op2 subD (ret (.int 0)) (op2 mulD (ret (.int 2)) (var 4))) (ret (.int 1))]) (opN (bltD .int) [op2 ltD (var 4) (ret (.int 0))]))) (
seq (ifS (orT (tst (op2 neD (callM F 4 [var 4]) (var 5))) (orT (tst (op2 neD (callM F 5 [var 5]) (var 4))) (notT (tru truD (callM F 21 [ret (.int 3), opN lstM [ret (.int 1), ret (.int 2), ret (.int 3)], ret (.int 0), ret (.int 0)])))))
(seq (retS (ret (.bl false))) (skip))
(skip)) (
seq (asg (.nm 6) (op2 modD (opN (bltD .abs) [callM F 13 [var 0, ret (.int 2)]]) (ret (.int 13)))) (
seq (asg (.nm 7) (ret (.int 1))) (
seq (forS (bnd (var 6) fun x => lift (rng1 x)) (.nm 8)
(seq (asg (.nm 7) (op2 mulD (var 7) (ret (.int 2)))) (skip))) (
seq (asg (.nm 9) (lcM [14] (bnd (callM F 14 [callM F 13 [var 0, ret (.int 3)], op2 addD (ret (.int 1)) (op2 modD (opN (bltD .abs) [callM F 13 [var 0, ret (.int 2)]]) (ret (.int 17)))]) fun x => lift (srcD x)) (.nm 14) (ret true) (op2 modD (opN (bltD .int) [var 14]) (var 7)))) (
seq (asg (.nm 10) (callM F 18 [var 9, var 6])) (
seq (ifS (orT (tst (op2 neD (callM F 6 [op2 subD (var 7) (ret (.int 1))]) (var 6))) (orT (tst (op2 neD (callM F 6 [var 7]) (op2 addD (var 6) (ret (.int 1))))) (tst (op2 neD (callM F 7 [var 9, var 6]) (var 10)))))
(seq (retS (ret (.bl false))) (skip))
(skip)) (
seq (ifS (tst (op2 neD (callM F 8 [op2 addD (op2 addD (opN lstM [ret (.int 7)]) (var 10)) (opN lstM [ret (.int 1)]), ret (.int 1), opN (bltD .len) [var 9], var 6]) (opN tupM [var 9, op2 addD (ret (.int 1)) (opN (bltD .len) [var 10])])))
(seq (retS (ret (.bl false))) (skip))
(skip)) (
seq (ifS (andT (tst (op2 gtD (opN (bltD .len) [var 10]) (ret (.int 0)))) (notT (tru truD (callM F 21 [ret (.int 2), sliceM (var 10) (ret none) (intOf (op2 subD (opN (bltD .len) [var 10]) (ret (.int 1)))), opN (bltD .len) [var 9], var 6]))))
(seq (retS (ret (.bl false))) (skip))
(skip)) (
seq (ifS (andT (tst (op2 gtD (op2 modD (opN (bltD .int) [op2 mulD (opN (bltD .len) [var 9]) (var 6)]) (ret (.int 8))) (ret (.int 0)))) (notT (tru truD (callM F 21 [ret (.int 2), op2 addD (sliceM (var 10) (ret none) (intOf (op2 subD (opN (bltD .len) [var 10]) (ret (.int 1))))) (opN lstM [ret (.int 255)]), opN (bltD .len) [var 9], var 6]))))
(seq (retS (ret (.bl false))) (skip))
(skip)) (
seq (asg (.nm 11) (op2 ixD (opN lstM [ret (.int 0), ret (.int 1), ret (.int 2), ret (.int 3), ret (.int 7), ret (.int 300), ret (.int 70000)]) (op2 modD (opN (bltD .abs) [callM F 13 [var 0, ret (.int 4)]]) (ret (.int 7))))) (
seq (forS (bnd (ret (.int 5)) fun x => bnd (opN (bltD .min) [opN (bltD .len) [var 0], ret (.int 10)]) fun y => lift (rng2 x y)) (.nm 8)
(seq (asg (.nm 12) (callM F 22 [callM F 13 [var 0, var 8], var 11])) (seq (asg (.nm 13) (callM F 20 [var 12, var 11])) (seq (ifS (orT (tst (op2 neD (callM F 9 [var 12, var 11]) (var 13))) (tst (op2 neD (callM F 12 [op2 addD (op2 addD (opN lstM [ret (.int 3)]) (var 13)) (opN lstM [ret (.int 77)]), ret (.int 1), opN (bltD .len) [var 12], var 11]) (opN tupM [var 12, op2 addD (ret (.int 1)) (opN (bltD .len) [var 13])]))))
  (seq (retS (ret (.bl false))) (skip))
  (skip)) (seq (ifS (andT (tst (op2 gtD (opN (bltD .len) [var 13]) (ret (.int 0)))) (notT (tru truD (callM F 21 [ret (.int 1), sliceM (var 13) (ret none) (intOf (op2 subD (opN (bltD .len) [var 13]) (ret (.int 1)))), opN (bltD .len) [var 12], var 11]))))
  (seq (retS (ret (.bl false))) (skip))
  (skip)) (seq (ifS (andT (tst (op2 gtD (var 11) (ret (.int 0)))) (andT (notT (tru truD (callM F 21 [ret (.int 1), op2 addD (callM F 15 [op2 addD (op2 mulD (ret (.int 2)) (opN (bltD .len) [var 12])) (ret (.int 2))]) (opN lstM [ret (.int 0)]), opN (bltD .len) [var 12], var 11]))) (tst (op2 gtD (opN (bltD .len) [var 12]) (ret (.int 0))))))
  (seq (retS (ret (.bl false))) (skip))
  (skip)) (skip))))))) (
seq (retS (op2 eqD (callM F 12 [opN lstM [ret (.int 2), ret (.int 1), ret (.int 3), ret (.int 2)], ret (.int 0), ret (.int 2), ret (.int 3)]) (opN tupM [opN lstM [ret (.int 1), ret (.int 2)], ret (.int 4)]))) (
skip)))))))))))))))))))))
theorem e23 (F : Call) : (sem F fuel).B (pg.ce f23) f23.body = b23 F := by kernel_rfl
end Dk

set_option Elab.async false
set_option linter.all false
set_option maxRecDepth 100000
set_option maxHeartbeats 4000000
namespace Dk
open PySem PySem.Spec PyProof.Rows L2 Dd

/-- what a def's end says -/
def End (Q : D → DH → Prop) (X : Nat → D → DH → Prop) : Fl → DE → DH → Prop := fun f _ h => match f with
  | .ret d => Q d h
  | .next => Q .non h
  | .ex c p => X c p h
  | _ => False
section
variable {Q : D → DH → Prop} {X : Nat → D → DH → Prop} {e : DE} {h : DH}
theorem end_ret {d : D} : End Q X (.ret d) e h ↔ Q d h := ⟨fun x => x, fun x => x⟩
theorem end_next : End Q X .next e h ↔ Q .non h := ⟨fun x => x, fun x => x⟩
theorem end_ex {c : Nat} {p : D} : End Q X (.ex c p) e h ↔ X c p h := ⟨fun x => x, fun x => x⟩
theorem wc_of {k : Nat} {f : Fn} {b : Call → MS} (hf : pg.fns[k]? = some f) (he : ∀ F : Call, (sem F fuel).B (pg.ce f) f.body = b F) {n : Nat} {ds : List D} {h : DH} (hl : ds.length = f.ps.length) (w : WP (b (pg.run n)) (startD f.N ds) h (End Q X)) : WC (pg.run (n + 1)) k ds h Q X := by
  obtain ⟨fl, e', h', q, w⟩ := w
  have u : pg.run (n + 1) k ds h = f.run pg (pg.run n) ds h := by
    show (match pg.fns[k]? with | some f => f.run pg (pg.run n) ds h | none => none) = _
    rw [hf]
  unfold WC
  rw [u]
  unfold Fn.run
  rw [if_pos hl, he, q]
  cases fl with
  | ret d => exact ⟨_, _, rfl, w⟩
  | next => exact ⟨_, _, rfl, w⟩
  | ex c p => exact ⟨_, _, rfl, w⟩
  | _ => exact w.elim
end
/-- the heap has grown -/
def Grow (h h' : DH) : Prop := ∃ more, h' = h ++ more
theorem Grow.refl (h : DH) : Grow h h := ⟨[], (List.append_nil h).symm⟩
theorem Grow.trans {a b c : DH} (x : Grow a b) (y : Grow b c) : Grow a c := by
  obtain ⟨m, rfl⟩ := x
  obtain ⟨k, rfl⟩ := y
  exact ⟨m ++ k, List.append_assoc _ _ _⟩
theorem Grow.one (h : DH) (o : Ob) : Grow h (h ++ [o]) := ⟨[o], rfl⟩
theorem Grow.ix {h h' : DH} (x : Grow h h') {i : Nat} {o : Ob} (e : h[i]? = some o) : h'[i]? = some o := by
  obtain ⟨m, rfl⟩ := x
  rw [List.getElem?_append_left (List.getElem?_eq_some_iff.mp e).1]
  exact e
theorem Grow.le {h h' : DH} (x : Grow h h') : h.length ≤ h'.length := by
  obtain ⟨m, rfl⟩ := x
  rw [List.length_append]; omega
theorem Grow.set {h h' : DH} (x : Grow h h') {i : Nat} (o : Ob) (hi : h.length ≤ i) : Grow h (h'.set i o) := by
  obtain ⟨m, rfl⟩ := x
  exact ⟨m.set (i - h.length) o, by rw [List.set_append_right _ _ hi]⟩
theorem Grow.lst {h h' : DH} (x : Grow h h') {i : Nat} {xs : List D} (e : lstAt h i = some xs) : lstAt h' i = some xs := by
  unfold lstAt
  rw [x.ix (lstAt_some e)]
theorem lst_new {h : DH} {xs : List D} : lstAt (h ++ [.lst xs]) h.length = some xs := by
  unfold lstAt
  rw [List.getElem?_append_right (Nat.le_refl _), Nat.sub_self]
  rfl
theorem lst_set {h : DH} {i : Nat} {xs ys : List D} (e : lstAt h i = some ys) : lstAt (h.set i (.lst xs)) i = some xs := by
  have := (List.getElem?_eq_some_iff.mp (lstAt_some e)).1
  unfold lstAt
  rw [List.getElem?_set_self this]
theorem atI_of {α : Type} {xs : List α} {i : Int} {k : Nat} {x : α} (hi : i = (k : Int)) (h : xs[k]? = some x) : L2.atI xs i = some x := by
  subst hi
  have hl := (List.getElem?_eq_some_iff.mp h).1
  unfold L2.atI ixN
  rw [if_pos (by omega), if_pos (by omega)]
  simpa using h
theorem atI_map {ns : List Int} {i : Int} {k : Nat} {x : Int} (hi : i = (k : Int)) (h : ns[k]? = some x) : L2.atI (ns.map D.int) i = some (.int x) := atI_of hi (by rw [List.getElem?_map, h]; rfl)
/-- the turn of a range -/
theorem rng_turn {n k : Nat} {d : D} (h : ((List.range n).map fun k => D.int (0 + (k : Nat)))[k]? = some d) : d = .int k ∧ k < n := by
  rw [List.getElem?_map] at h
  obtain ⟨j, e1, e2⟩ := Dd.map_some h
  obtain ⟨h1, h2⟩ := List.getElem?_eq_some_iff.mp e1
  rw [List.length_range] at h1
  rw [List.getElem_range] at h2
  subst h2 e2
  exact ⟨by simp, h1⟩
theorem mul_r {i j : Int} {h : DH} (hj : smallI j = true) : mulD (.int i) (.int j) h = some (.int (i * j), h) := by
  unfold mulD
  dsimp only
  rw [hj, Bool.or_true, if_pos rfl]
theorem take_snoc {α : Type} {l : List α} {k : Nat} {c : α} (h : l[k]? = some c) : l.take (k + 1) = l.take k ++ [c] := by
  rw [List.take_succ, h]
  rfl
section
variable {e : DE} {h : DH}
theorem live_at {i : Nat} {hh : DH} {xs : List D} (k : Nat) (l : lstAt hh i = some xs) : (Src.live i xs.length).at_ k hh = xs[k]? := by
  dsimp only [Src.at_]
  rw [l]
  dsimp only
  rw [if_pos rfl]
theorem live_done {i : Nat} {hh : DH} {xs : List D} (l : lstAt hh i = some xs) : (Src.live i xs.length).done hh = true := by
  dsimp only [Src.done]
  rw [l]
  exact decide_eq_true rfl
/-- for x in a list that stays as it is -/
theorem for_list {a : M D} {t : Tg} {b : MS} {Q : Fl → DE → DH → Prop} (Inv : Nat → List D → Nat → DE → DH → Prop)
    (w : WE a e h (fun d h1 => ∃ i xs, d = .ref i ∧ lstAt h1 i = some xs ∧ Inv i xs 0 e h1 ∧ (∀ k e hh, Inv i xs k e hh → lstAt hh i = some xs) ∧ (∀ e h, Inv i xs xs.length e h → Q .next e h) ∧
      ∀ k d e h, xs[k]? = some d → Inv i xs k e h → ∃ e1, t.put d h e = some e1 ∧ WP b e1 h (Turned Q (Inv i xs (k + 1)))) fun c p h1 => Q (.ex c p) e h1) : WP (forS (bnd a fun x => lift (srcD x)) t b) e h Q := by
  unfold forS
  rw [wp_with, we_bnd]
  refine w.mono (fun d h1 w => ?_) fun _ _ _ x => x
  obtain ⟨i, xs, rfl, l0, i0, keep, hd, step⟩ := w
  rw [we_lift, wo_iff]
  refine ⟨.live i xs.length, h1, by simp only [srcD, l0, Option.map_some], ?_⟩
  show WP (forL (.live i xs.length) t b xs.length 0) e h1 Q
  have go : ∀ n k e h, k + n = xs.length → Inv i xs k e h → WP (forL (.live i xs.length) t b n k) e h Q := by
    intro n
    induction n with
    | zero =>
      intro k e h hk iv
      have l := keep k e h iv
      refine ⟨.next, e, h, ?_, hd e h (by rw [← hk]; exact iv)⟩
      show (if (Src.live i xs.length).done h then some (Fl.next, e, h) else none) = _
      rw [live_done l, if_pos rfl]
    | succ n ih =>
      intro k e h hk iv
      have l := keep k e h iv
      have hlt : k < xs.length := by omega
      obtain ⟨e1, p1, f, e2, h2, q, w⟩ := step k xs[k] e h (List.getElem?_eq_getElem hlt) iv
      have un : forL (.live i xs.length) t b (n + 1) k e h = match b e1 h with
          | some (.next, e2, h2) => forL (.live i xs.length) t b n (k + 1) e2 h2
          | some (.cont, e2, h2) => forL (.live i xs.length) t b n (k + 1) e2 h2
          | some (.brk, e2, h2) => some (.next, e2, h2)
          | r => r := by
        dsimp only [forL]
        rw [live_at k l, List.getElem?_eq_getElem hlt]
        dsimp only
        rw [p1]
        try rfl
      unfold WP
      rw [un, q]
      cases f with
      | next => exact ih (k + 1) e2 h2 (by omega) w
      | cont => exact ih (k + 1) e2 h2 (by omega) w
      | brk => exact ⟨_, _, _, rfl, w⟩
      | ret d => exact ⟨_, _, _, rfl, w⟩
      | ex c p => exact ⟨_, _, _, rfl, w⟩
  exact go xs.length 0 e h1 (by omega) i0
/-- [.. for x in a list that stays as it is] -/
theorem lc_list {vs : List Nat} {a : M D} {t : Tg} {m : M D} {Q : D → DH → Prop} {X : Nat → D → DH → Prop} (Inv : Nat → List D → Nat → Nat → List D → DH → Prop)
    (w : WE a e h (fun d h1 => ∃ i xs, d = .ref i ∧ lstAt h1 i = some xs ∧ xs.length ≤ Z ∧ Inv i xs h1.length 0 [] (h1 ++ [.lst []]) ∧ (∀ k acc hh, Inv i xs h1.length k acc hh → lstAt hh i = some xs) ∧
      (∀ acc h, lstAt h h1.length = some acc → Inv i xs h1.length xs.length acc h → Q (.ref h1.length) h) ∧
      ∀ k d acc h, xs[k]? = some d → lstAt h h1.length = some acc → Inv i xs h1.length k acc h → ∃ e1, t.put d h (wipeE e vs) = some e1 ∧ Elt m e1 h h1.length acc (Inv i xs h1.length (k + 1))) X) : WE (lcM vs (bnd a fun x => lift (srcD x)) t (Dd.ret true) m) e h Q X := by
  unfold lcM
  rw [we_bnd, we_bnd]
  refine w.mono (fun d h1 w => ?_) fun _ _ _ x => x
  obtain ⟨i, xs, rfl, l0, hz, i0, keep, hd, step⟩ := w
  rw [we_lift, wo_iff]
  refine ⟨.live i xs.length, h1, by simp only [srcD, l0, Option.map_some], ?_⟩
  have go : ∀ n k acc h, k + n = xs.length → lstAt h h1.length = some acc → acc.length ≤ k → Inv i xs h1.length k acc h → ∃ h', lcLoop (.live i xs.length) t (Dd.ret true) m h1.length (wipeE e vs) n k h = some h' ∧ ∃ acc, lstAt h' h1.length = some acc ∧ Inv i xs h1.length xs.length acc h' := by
    intro n
    induction n with
    | zero =>
      intro k acc h hk l _ iv
      refine ⟨h, ?_, acc, l, by rw [← hk]; exact iv⟩
      show (if (Src.live i xs.length).done h then some h else none) = _
      rw [live_done (keep _ _ _ iv), if_pos rfl]
    | succ n ih =>
      intro k acc h hk l hl iv
      have hlt : k < xs.length := by omega
      obtain ⟨e1, p1, r, h3, q3, w⟩ := step k xs[k] acc h (List.getElem?_eq_getElem hlt) l iv
      cases r with
      | ex c p => exact w.elim
      | ok x =>
        obtain ⟨w1, w2⟩ := w
        have un : lcLoop (.live i xs.length) t (Dd.ret true) m h1.length (wipeE e vs) (n + 1) k h = lcLoop (.live i xs.length) t (Dd.ret true) m h1.length (wipeE e vs) n (k + 1) (h3.set h1.length (.lst (acc ++ [x]))) := by
          dsimp only [lcLoop]
          rw [live_at k (keep _ _ _ iv), List.getElem?_eq_getElem hlt]
          dsimp only
          rw [p1]
          show (match m e1 h with
            | some (.ok x, h2) => match lstAt h2 h1.length with
              | some acc => if acc.length < Z then lcLoop (.live i xs.length) t (Dd.ret true) m h1.length (wipeE e vs) n (k + 1) (h2.set h1.length (.lst (acc ++ [x]))) else none
              | none => none
            | _ => none) = _
          rw [q3]
          dsimp only
          rw [w1]
          dsimp only
          rw [if_pos (by omega)]
        rw [un]
        exact ih (k + 1) _ _ (by omega) (lst_set w1) (by rw [List.length_append]; exact Nat.succ_le_succ hl) w2
  obtain ⟨h', q, acc, l, iv⟩ := go xs.length 0 [] (h1 ++ [.lst []]) (by omega) lst_new (Nat.le_refl _) i0
  exact ⟨.ok (.ref h1.length), h', by show (lcLoop (.live i xs.length) t (Dd.ret true) m h1.length (wipeE e vs) xs.length 0 (h1 ++ [.lst []])).map _ = _; rw [q]; rfl, hd acc h' l iv⟩
end
theorem eq_ss (a b : Str) (h : DH) : eqD (.str a) (.str b) h = some (.bl (decide (a = b)), h) := rfl
theorem ne_ss (a b : Str) (h : DH) : neD (.str a) (.str b) h = some (.bl (!decide (a = b)), h) := rfl
theorem eq_ii (a b : Int) (h : DH) : eqD (.int a) (.int b) h = some (.bl (decide (a = b)), h) := rfl
theorem ne_ii (a b : Int) (h : DH) : neD (.int a) (.int b) h = some (.bl (!decide (a = b)), h) := rfl
theorem isNot_non (v : D) (h : DH) : isNotD v .non h = some (.bl (!isNonD v), h) := by
  unfold isNotD isD
  cases v <;> rfl
theorem drop_cons {α : Type} {xs : List α} {k : Nat} {x : α} (h : xs[k]? = some x) : xs.drop k = x :: xs.drop (k + 1) := by
  obtain ⟨hk, e⟩ := List.getElem?_eq_some_iff.mp h
  rw [← e]
  exact List.drop_eq_getElem_cons hk
theorem wp_try {b s : MS} {c i : Nat} {e : DE} {h : DH} {Q : Fl → DE → DH → Prop} (w : WP b e h fun f e1 h1 => match f with
      | .ex c' p => c' = c ∧ WP s (e1.set i (some p)) h1 fun f e2 h2 => (∀ c p, f ≠ .ex c p) ∧ Q f (e2.set i none) h2
      | f => Q f e1 h1) : WP (tryS b c (some i) s) e h Q := by
  obtain ⟨f, e1, h1, q, w⟩ := w
  cases f with
  | ex c' p =>
    obtain ⟨rfl, f2, e2, h2, q2, w1, w2⟩ := w
    refine ⟨f2, e2.set i none, h2, ?_, w2⟩
    unfold tryS
    rw [q]
    dsimp only
    rw [if_pos rfl, q2]
    cases f2 with
    | ex c p => exact absurd rfl (w1 c p)
    | _ => rfl
  | next => exact ⟨_, _, _, by unfold tryS; rw [q], w⟩
  | brk => exact ⟨_, _, _, by unfold tryS; rw [q], w⟩
  | cont => exact ⟨_, _, _, by unfold tryS; rw [q], w⟩
  | ret d => exact ⟨_, _, _, by unfold tryS; rw [q], w⟩
/-! ### what the operations give on known shapes -/
theorem q_add (i j : Int) (h : DH) : addD (.int i) (.int j) h = some (.int (i + j), h) := rfl
theorem q_addt (xs ys : List D) (h : DH) (z : xs.length + ys.length ≤ 16777216) : addD (.tup xs) (.tup ys) h = some (.tup (xs ++ ys), h) := if_pos z
theorem q_sub (i j : Int) (h : DH) : subD (.int i) (.int j) h = some (.int (i - j), h) := rfl
theorem q_mod (i j : Int) (h : DH) (z : 0 < j) : modD (.int i) (.int j) h = some (.int (i % j), h) := if_pos z
theorem q_fdiv (i j : Int) (h : DH) (z : 0 < j) (z2 : j < 1073741824) : fdivD (.int i) (.int j) h = some (.int (i / j), h) := if_pos ⟨z, below_iff.mpr ⟨by omega, z2⟩⟩
theorem q_mulr (i j : Int) (h : DH) (z : -18446744073709551616 < j) (z2 : j < 18446744073709551616) : mulD (.int i) (.int j) h = some (.int (i * j), h) := mul_r (below_iff.mpr ⟨z, z2⟩)
theorem q_mull (i j : Int) (h : DH) (z : -18446744073709551616 < i) (z2 : i < 18446744073709551616) : mulD (.int i) (.int j) h = some (.int (i * j), h) := by
  unfold mulD
  dsimp only
  rw [show smallI i = true from below_iff.mpr ⟨z, z2⟩, Bool.true_or, if_pos rfl]
theorem q_neg (i : Int) (h : DH) : negD (.int i) h = some (.int (-i), h) := rfl
theorem q_lt (i j : Int) (h : DH) : ltD (.int i) (.int j) h = some (.bl (decide (i < j)), h) := by rw [← ltI_eq]; rfl
theorem q_le (i j : Int) (h : DH) : leD (.int i) (.int j) h = some (.bl (decide (i ≤ j)), h) := by rw [← leI_eq]; rfl
theorem q_gt (i j : Int) (h : DH) : gtD (.int i) (.int j) h = some (.bl (decide (j < i)), h) := by rw [← ltI_eq]; rfl
theorem q_ge (i j : Int) (h : DH) : geD (.int i) (.int j) h = some (.bl (decide (j ≤ i)), h) := by rw [← leI_eq]; rfl
theorem q_ix0 (a : D) (xs : List D) (h : DH) : ixD (.tup (a :: xs)) (.int 0) h = some (a, h) := by
  have q : L2.atI (a :: xs) 0 = some a := atI_of (k := 0) rfl rfl
  unfold ixD
  dsimp only
  rw [q]; rfl
theorem q_ix1 (a b : D) (xs : List D) (h : DH) : ixD (.tup (a :: b :: xs)) (.int 1) h = some (b, h) := by
  have q : L2.atI (a :: b :: xs) 1 = some b := atI_of (k := 1) rfl rfl
  unfold ixD
  dsimp only
  rw [q]; rfl
theorem q_ix2 (a b c : D) (xs : List D) (h : DH) : ixD (.tup (a :: b :: c :: xs)) (.int 2) h = some (c, h) := by
  have q : L2.atI (a :: b :: c :: xs) 2 = some c := atI_of (k := 2) rfl rfl
  unfold ixD
  dsimp only
  rw [q]; rfl
theorem q_is_t (xs : List D) (h : DH) : isinD "tuple" (.tup xs) h = some (.bl true, h) := rfl
theorem q_is_s (x : Str) (h : DH) : isinD "tuple" (.str x) h = some (.bl false, h) := rfl
theorem q_is_lt (xs : List D) (h : DH) : isinD "list" (.tup xs) h = some (.bl false, h) := rfl
theorem q_is_ll (i : Nat) (h : DH) : isinD "list" (.ref i) h = (tyName (.ref i) h).map fun n => (.bl (isTy "list" n), h) := rfl
theorem q_tru (b : Bool) (h : DH) : truD (.bl b) h = some b := rfl
theorem q_lent (ds : List D) (h : DH) : bltD .len [.tup ds] h = some (.int ds.length, h) := rfl
theorem q_lenr (i : Nat) (h : DH) : bltD .len [.ref i] h = (match h[i]? with
    | some (.lst ds) => some (.int ds.length, h)
    | some (.dk ds) => some (.int ds.length, h)
    | _ => none) := rfl
theorem q_int (i : Int) (h : DH) : bltD .int [.int i] h = some (.int i, h) := rfl
theorem q_intb (b : Bool) (h : DH) : bltD .int [.bl b] h = some (.int (if b then 1 else 0), h) := rfl
theorem q_abs (i : Int) (h : DH) : bltD .abs [.int i] h = some (.int (if i < 0 then -i else i), h) := rfl
theorem q_tupr (i : Nat) (h : DH) : bltD .tuple [.ref i] h = (match lstAt h i with
    | some ds => some (.tup ds, h)
    | none => none) := rfl
theorem q_lstt (ds : List D) (h : DH) : bltD .list [.tup ds] h = some (.ref h.length, h ++ [.lst ds]) := rfl
theorem q_lst (xs : List D) (h : DH) (z : xs.length ≤ 16777216) : lstM xs h = some (.ref h.length, h ++ [.lst xs]) := if_pos z
theorem q_tup (xs : List D) (h : DH) (z : xs.length ≤ 16777216) : tupM xs h = some (.tup xs, h) := if_pos z
theorem q_oka (i : Nat) (h : DH) : mthOk .append (.ref i) h = (lstAt h i).isSome := rfl
theorem q_oke (i : Nat) (h : DH) : mthOk .extend (.ref i) h = (lstAt h i).isSome := rfl
theorem q_okj (x : Str) (h : DH) : mthOk .join (.str x) h = true := rfl
theorem q_app (i : Nat) (d : D) (h : DH) : mthD .append (.ref i) [d] h = (match lstAt h i with
    | some ds => if ds.length < Z then some (.non, h.set i (.lst (ds ++ [d]))) else none
    | none => none) := rfl
theorem q_ext (i j : Nat) (h : DH) : mthD .extend (.ref i) [.ref j] h = (match lstAt h i, lstAt h j with
    | some xs, some ys => if xs.length + ys.length ≤ Z then some (.non, h.set i (.lst (xs ++ ys))) else none
    | _, _ => none) := rfl
theorem q_nm (i : Nat) (d : D) (h : DH) (e : DE) : (Tg.nm i).put d h e = some (e.set i (some d)) := rfl
theorem q_tp (is : List Nat) (xs : List D) (h : DH) (e : DE) : (Tg.tp is).put (.tup xs) h e = setAll is xs e := rfl
theorem q_sa0 (e : DE) : setAll [] [] e = some e := rfl
theorem q_sa1 (i : Nat) (is : List Nat) (d : D) (ds : List D) (e : DE) : setAll (i :: is) (d :: ds) e = setAll is ds (e.set i (some d)) := rfl
theorem q_isn (v : D) (h : DH) : isD v .non h = some (.bl (isNonD v), h) := by cases v <;> rfl
theorem q_isb (a b : Bool) (h : DH) : isD (.bl a) (.bl b) h = some (.bl (decide (a = b)), h) := rfl
theorem q_wipe0 (e : DE) : wipeE e [] = e := rfl
theorem q_wipe1 (e : DE) (v : Nat) (vs : List Nat) : wipeE e (v :: vs) = (wipeE e vs).set v none := rfl
theorem pickN {xs : List D} {v : Int} (h0 : 0 ≤ v) (h1 : v < xs.length) : ∃ x, x ∈ xs ∧ L2.atI xs v = some x := by
  have hk : v.toNat < xs.length := by omega
  exact ⟨xs[v.toNat], List.getElem_mem hk, atI_of (k := v.toNat) (by omega) (List.getElem?_eq_getElem hk)⟩
/-! ### plain data as the library's -/
def Pure : Nat → D → Prop
  | 0, _ => False
  | n + 1, d => match d with
    | .non => True
    | .bl _ => True
    | .int _ => True
    | .str x => PyData.strOk x = true
    | .tup xs => ∀ x ∈ xs, Pure n x
    | _ => False
theorem pure_list {n k : Nat} (ih : ∀ d, Pure n d → ∃ x, (∀ h, toPy h k d = some x) ∧ x.canLay0 = true ∧ x.depth ≤ n) : ∀ xs : List D, (∀ x ∈ xs, Pure n x) → ∃ ys, (∀ h, xs.mapM (toPy h k) = some ys) ∧ PyData.canLayAll0 ys = true ∧ PyData.depthAll ys ≤ n
  | [], _ => ⟨[], fun h => rfl, rfl, Nat.zero_le _⟩
  | x :: xs, p => by
    obtain ⟨y, y1, y2, y3⟩ := ih x (p x List.mem_cons_self)
    obtain ⟨ys, z1, z2, z3⟩ := pure_list ih xs fun z hz => p z (List.mem_cons_of_mem _ hz)
    refine ⟨y :: ys, fun h => ?_, ?_, ?_⟩
    · rw [List.mapM_cons, y1 h, z1 h]
      rfl
    · simp only [PyData.canLayAll0, y2, z2, Bool.and_self]
    · simp only [PyData.depthAll]
      omega
theorem pure_py : ∀ (n k : Nat) (d : D), Pure n d → n ≤ k → ∃ x, (∀ h, toPy h k d = some x) ∧ x.canLay0 = true ∧ x.depth ≤ n
  | 0, _, _, p, _ => p.elim
  | n + 1, 0, _, _, hk => by omega
  | n + 1, k + 1, d, p, hk => by
    cases d with
    | non => exact ⟨.none, fun h => rfl, rfl, Nat.zero_le _⟩
    | bl b => exact ⟨.bool b, fun h => rfl, rfl, Nat.zero_le _⟩
    | int i => exact ⟨.int i, fun h => rfl, rfl, Nat.zero_le _⟩
    | str x => exact ⟨.str x, fun h => rfl, p, Nat.zero_le _⟩
    | tup xs =>
      obtain ⟨ys, z1, z2, z3⟩ := pure_list (k := k) (fun d q => pure_py n k d q (by omega)) xs p
      refine ⟨.tuple ys, fun h => ?_, z2, ?_⟩
      · show (xs.mapM (toPy h k)).map PyData.tuple = _
        rw [z1 h]
        rfl
      · simp only [PyData.depth]
        omega
    | _ => exact p.elim
theorem shaped_of {x : PyData} {n : Nat} (h1 : x.canLay0 = true) (h2 : x.depth ≤ n) (hn : n ≤ 64) : SeqAt.shaped x = true := by
  unfold SeqAt.shaped
  rw [h1, decide_eq_true (by omega : x.depth ≤ 64)]
  rfl
theorem eqB_pure {n : Nat} {d : D} (h : DH) (p : Pure n d) (hn : n ≤ 20) : eqB d d h = some true := by
  obtain ⟨x, x1, x2, x3⟩ := pure_py n 20 d p hn
  cases n with
  | zero => exact p.elim
  | succ n =>
    cases d with
    | tup xs =>
      unfold eqB
      simp only [scalD, x1 h, shaped_of x2 x3 (by omega), Bool.and_self, if_true, SeqAt.eqv_refl x x2]
    | non => rfl
    | bl b => simp [eqB, scalD]
    | int i => simp [eqB, scalD]
    | str s => simp [eqB, scalD]
    | _ => exact p.elim
theorem ne_pure {n : Nat} {d : D} (h : DH) (p : Pure n d) (hn : n ≤ 20) : neD d d h = some (.bl false, h) := by
  unfold neD
  rw [eqB_pure h p hn]
  rfl
theorem eqB_lists {n i j : Nat} {xs : List D} {h : DH} (li : lstAt h i = some xs) (lj : lstAt h j = some xs) (p : ∀ x ∈ xs, Pure n x) (hn : n ≤ 19) : eqB (.ref i) (.ref j) h = some true := by
  obtain ⟨ys, z1, z2, z3⟩ := pure_list (k := 19) (fun d q => pure_py n 19 d q hn) xs p
  have e : ∀ k, lstAt h k = some xs → toPy h 20 (.ref k) = some (.list ys) := fun k l => by
    have := lstAt_some l
    show (match h[k]? with | some (.lst xs) => (xs.mapM (toPy h 19)).map PyData.list | _ => none) = _
    rw [this]
    dsimp only
    rw [z1 h]
    rfl
  have c : (PyData.list ys).canLay0 = true := z2
  have dp : (PyData.list ys).depth ≤ n + 1 := by simp only [PyData.depth]; omega
  unfold eqB
  simp only [scalD, e i li, e j lj, shaped_of c dp (by omega), Bool.and_self, if_true, SeqAt.eqv_refl _ c]
theorem ne_lists {n i j : Nat} {xs : List D} {h : DH} (li : lstAt h i = some xs) (lj : lstAt h j = some xs) (p : ∀ x ∈ xs, Pure n x) (hn : n ≤ 19) : neD (.ref i) (.ref j) h = some (.bl false, h) := by
  unfold neD
  rw [eqB_lists li lj p hn]
  rfl
/-- slices -/
theorem cut_to {α : Type} {xs : List α} {a : Nat} (h : a ≤ xs.length) : Dd.cutD xs none (some (a : Int)) = xs.take a := by
  unfold Dd.cutD
  rw [HT.sIx_none, HT.sIx_nat, Nat.min_eq_left h]
  simp
theorem cut_from {α : Type} {xs : List α} {a : Nat} (h : a ≤ xs.length) : Dd.cutD xs (some (a : Int)) none = xs.drop a := by
  unfold Dd.cutD
  rw [HT.sIx_none, HT.sIx_nat, Nat.min_eq_left h]
  exact List.take_of_length_le (by rw [List.length_drop]; omega)
theorem q_slt {xs : List D} {a : Nat} (h : DH) (ha : a ≤ xs.length) : sliceD (.tup xs) none (some (a : Int)) h = some (.tup (xs.take a), h) := by
  rw [← cut_to ha]; rfl
theorem q_slf {xs : List D} {a : Nat} (h : DH) (ha : a + 1 ≤ xs.length) : sliceD (.tup xs) (some ((a : Int) + 1)) none h = some (.tup (xs.drop (a + 1)), h) := by
  rw [← cut_from ha]; rfl
theorem q_tpr (is : List Nat) (i : Nat) (h : DH) (e : DE) : (Tg.tp is).put (.ref i) h e = (match lstAt h i with | some ds => setAll is ds e | none => none) := rfl
theorem lst_app {h l : DH} {i k : Nat} {xs : List D} (hi : i = h.length + k) (hk : l[k]? = some (.lst xs)) : lstAt (h ++ l) i = some xs := by
  unfold lstAt
  rw [hi, List.getElem?_append_right (by omega), Nat.add_sub_cancel_left, hk]
theorem take_get {α : Type} {l : List α} {a i : Nat} {x : α} (h : (l.take a)[i]? = some x) : l[i]? = some x := by
  rw [List.getElem?_take] at h
  split at h
  · exact h
  · cases h
theorem lst_other {h : DH} {i k : Nat} {xs ys : List D} (ne : i ≠ k) (l : lstAt h k = some xs) : lstAt (h.set i (.lst ys)) k = some xs := by
  have := lstAt_some l
  unfold lstAt
  rw [List.getElem?_set_ne ne, this]
end Dk

set_option Elab.async false
set_option linter.all false
set_option maxRecDepth 100000
set_option maxHeartbeats 4000000
namespace Dk
open PySem PySem.Spec PyProof.Rows L2 Dd

/-! ### while, augmented assignments -/
section
variable {e : DE} {h : DH} {Q : Fl → DE → DH → Prop}
theorem wp_aug {f : D → D → DH → Option (D × DH)} {i : Nat} {m : M D} : WP (augS f i m) e h Q ↔ WE (var i) e h (fun x h1 => WE m e h1 (fun y h2 => WO (f x y) h2 fun z h3 => Q .next (e.set i (some z)) h3) fun c p h1 => Q (.ex c p) e h1) fun c p h1 => Q (.ex c p) e h1 := by
  unfold augS
  rw [wp_with]
  constructor
  · intro w
    refine w.mono (fun x h1 w => ?_) fun _ _ _ x => x
    rw [wp_with] at w
    refine w.mono (fun y h2 w => ?_) fun _ _ _ x => x
    rw [wp_with, we_lift] at w
    rw [wo_iff] at w ⊢
    obtain ⟨z, h3, q, f', e', h', q2, w⟩ := w
    cases q2
    exact ⟨z, h3, q, w⟩
  · intro w
    refine w.mono (fun x h1 w => ?_) fun _ _ _ x => x
    rw [wp_with]
    refine w.mono (fun y h2 w => ?_) fun _ _ _ x => x
    rw [wp_with, we_lift]
    rw [wo_iff] at w ⊢
    obtain ⟨z, h3, q, w⟩ := w
    exact ⟨z, h3, q, _, _, _, rfl, w⟩
theorem wp_while {t : M Bool} {b : MS} {N : Nat} (Inv : Nat → DE → DH → Prop) (hN : N < 1000000) (i0 : Inv N e h)
    (step : ∀ n e h, Inv n e h → WE t e h (fun c h1 => if c then ∃ n', n = n' + 1 ∧ WP b e h1 (Turned Q (Inv n')) else Q .next e h1) fun c p h1 => Q (.ex c p) e h1) : WP (whileL t b whileFuel) e h Q := by
  have go : ∀ r n e h, n < r → Inv n e h → WP (whileL t b r) e h Q := by
    intro r
    induction r with
    | zero => intro n e h hn; omega
    | succ r ih =>
      intro n e h hn iv
      show WP (withM t fun c => if c then _ else skip) e h Q
      rw [wp_with]
      refine (step n e h iv).mono (fun c h1 w => ?_) fun _ _ _ x => x
      cases c with
      | false => exact wp_skip.mpr w
      | true =>
        obtain ⟨n', rfl, f, e2, h2, q, w⟩ := w
        show WP (fun e h => match b e h with
          | some (.next, e2, h2) => whileL t b r e2 h2
          | some (.cont, e2, h2) => whileL t b r e2 h2
          | some (.brk, e2, h2) => some (.next, e2, h2)
          | r => r) e h1 Q
        unfold WP
        dsimp only
        rw [q]
        cases f with
        | next => exact ih n' e2 h2 (by omega) w
        | cont => exact ih n' e2 h2 (by omega) w
        | brk => exact ⟨_, _, _, rfl, w⟩
        | ret d => exact ⟨_, _, _, rfl, w⟩
        | ex c p => exact ⟨_, _, _, rfl, w⟩
  exact go whileFuel N e h hN i0
end
theorem wp_brk {e : DE} {h : DH} {Q : Fl → DE → DH → Prop} : WP (fun e h => some (.brk, e, h)) e h Q ↔ Q .brk e h := by
  constructor
  · rintro ⟨f, e', h', q, w⟩
    cases q
    exact w
  · exact fun w => ⟨_, _, _, rfl, w⟩
/-- try .. except X: without a name -/
theorem wp_try0 {b s : MS} {c : Nat} {e : DE} {h : DH} {Q : Fl → DE → DH → Prop} (w : WP b e h fun f e1 h1 => match f with
      | .ex c' p => c' = c ∧ WP s e1 h1 fun f e2 h2 => (∀ c p, f ≠ .ex c p) ∧ Q f e2 h2
      | f => Q f e1 h1) : WP (tryS b c none s) e h Q := by
  obtain ⟨f, e1, h1, q, w⟩ := w
  cases f with
  | ex c' p =>
    obtain ⟨rfl, f2, e2, h2, q2, w1, w2⟩ := w
    refine ⟨f2, e2, h2, ?_, w2⟩
    unfold tryS
    rw [q]
    dsimp only
    rw [if_pos rfl, q2]
    cases f2 with
    | ex c p => exact absurd rfl (w1 c p)
    | _ => rfl
  | next => exact ⟨_, _, _, by unfold tryS; rw [q], w⟩
  | brk => exact ⟨_, _, _, by unfold tryS; rw [q], w⟩
  | cont => exact ⟨_, _, _, by unfold tryS; rw [q], w⟩
  | ret d => exact ⟨_, _, _, by unfold tryS; rw [q], w⟩
/-! ### bits -/
theorem p_and127 (i : Int) (h : DH) : andD (.int i) (.int 127) h = some (.int (i % 128), h) := by rw [← bitAnd_m7]; rfl
theorem p_and255 (i : Int) (h : DH) : andD (.int i) (.int 255) h = some (.int (i % 256), h) := by rw [← bitAnd_m8]; rfl
theorem p_and1 (i : Int) (h : DH) : andD (.int i) (.int 1) h = some (.int (i % 2), h) := by rw [← bitAnd_m1]; rfl
theorem p_mask (i : Int) (k : Nat) (h : DH) : andD (.int i) (.int (2 ^ k - 1)) h = some (.int (i % 2 ^ k), h) := by rw [← PySem.W.kbt_mask]; rfl
theorem p_shr (i : Int) (k : Nat) (h : DH) : shrD (.int i) (.int (k : Int)) h = some (.int (i / 2 ^ k), h) := by
  have c : leI 0 (k : Int) = true := by rw [leI_eq]; exact decide_eq_true (Int.natCast_nonneg _)
  show (if leI 0 (k : Int) = true then some (D.int (shrI i k), h) else none) = _
  rw [if_pos c]
  rfl
theorem p_shr8 (i : Int) (h : DH) : shrD (.int i) (.int 8) h = some (.int (i / 256), h) := p_shr i 8 h
theorem p_shr16 (i : Int) (h : DH) : shrD (.int i) (.int 16) h = some (.int (i / 65536), h) := p_shr i 16 h
theorem p_shr24 (i : Int) (h : DH) : shrD (.int i) (.int 24) h = some (.int (i / 16777216), h) := p_shr i 24 h
theorem p_ashr (i : Int) (k : Nat) (h : DH) : augShr (.int i) (.int (k : Int)) h = some (.int (i / 2 ^ k), h) := by
  have c : leI 0 (k : Int) = true := by rw [leI_eq]; exact decide_eq_true (Int.natCast_nonneg _)
  show (if leI 0 (k : Int) = true then some (D.int (shrI i k), h) else none) = _
  rw [if_pos c]
  rfl
theorem p_ashr7 (i : Int) (h : DH) : augShr (.int i) (.int 7) h = some (.int (i / 128), h) := p_ashr i 7 h
theorem p_ashr8 (i : Int) (h : DH) : augShr (.int i) (.int 8) h = some (.int (i / 256), h) := p_ashr i 8 h
theorem p_aadd (i j : Int) (h : DH) : augAdd (.int i) (.int j) h = some (.int (i + j), h) := rfl
theorem p_asub (i j : Int) (h : DH) : augSub (.int i) (.int j) h = some (.int (i - j), h) := rfl
theorem or_add {a b k : Nat} (ha : a < 2 ^ k) : PySem.Builtin.bitOr (a : Int) ((b * 2 ^ k : Nat) : Int) = ((a + b * 2 ^ k : Nat) : Int) := by
  have hl := or_low (q := (b : Int)) (r := (a : Int)) (k := k) (Int.natCast_nonneg _) (Int.natCast_nonneg _) (by exact_mod_cast ha)
  have hc : ((b * 2 ^ k : Nat) : Int) = (b : Int) * 2 ^ k := by rw [Int.natCast_mul]; norm_cast
  rw [bitOr_nn (Int.natCast_nonneg _) (Int.natCast_nonneg _)] at *
  rw [hc]
  rw [bitOr_nn (by rw [← hc]; exact Int.natCast_nonneg _) (Int.natCast_nonneg _)] at hl
  rw [Nat.or_comm, hl]
  norm_cast
  rw [Nat.add_comm]
theorem p_or {a b k : Nat} (ha : a < 2 ^ k) (h : DH) : orD (.int (a : Int)) (.int ((b * 2 ^ k : Nat) : Int)) h = some (.int ((a + b * 2 ^ k : Nat) : Int), h) := by rw [← or_add ha]; rfl
theorem p_aor {a b k : Nat} (ha : a < 2 ^ k) (h : DH) : augOr (.int (a : Int)) (.int ((b * 2 ^ k : Nat) : Int)) h = some (.int ((a + b * 2 ^ k : Nat) : Int), h) := by rw [← or_add ha]; rfl
theorem p_shl {a k : Nat} (ha : a < 2 ^ 64) (hk : k ≤ 1000000) (h : DH) : shlD (.int (a : Int)) (.int (k : Int)) h = some (.int ((a * 2 ^ k : Nat) : Int), h) := by
  have c : (leI 0 (k : Int) && below (k : Int) 1000001 && smallI (a : Int)) = true := by
    rw [leI_eq, decide_eq_true (Int.natCast_nonneg _), Bool.true_and, Bool.and_eq_true]
    exact ⟨below_iff.mpr (by omega), below_iff.mpr (by omega)⟩
  unfold shlD
  dsimp only
  rw [if_pos c]
  unfold shlI
  rw [Int.toNat_natCast]
  norm_cast
end Dk

set_option Elab.async false
set_option linter.all false
set_option maxRecDepth 100000
set_option maxHeartbeats 4000000
namespace Dk
open PySem PySem.Spec PyProof.Rows L2 Dd

def nD (bs : List Nat) : List D := bs.map fun b : Nat => D.int (b : Int)
theorem nD_app (a b : List Nat) : nD (a ++ b) = nD a ++ nD b := List.map_append
theorem nD_len (a : List Nat) : (nD a).length = a.length := List.length_map _
/-- the bytes of a number -/
def numB (n : Nat) : List Nat := if n < 128 then [n] else (n % 128 + 128) :: numB (n / 128)
termination_by n
decreasing_by omega
theorem numB_lt {n : Nat} (h : n < 128) : numB n = [n] := by rw [numB, if_pos h]
theorem numB_ge {n : Nat} (h : ¬ n < 128) : numB n = (n % 128 + 128) :: numB (n / 128) := by rw [numB, if_neg h]
theorem p_or128 (m : Nat) (h : DH) : orD (.int ((m : Int) % 128)) (.int 128) h = some (.int ((m % 128 + 128 : Nat) : Int), h) := p_or (a := m % 128) (b := 1) (k := 7) (by omega) h
def I0 (n : Nat) (h : DH) (k : Nat) (e : DE) (hh : DH) : Prop := ∃ m acc, e = [some (.int ((m : Nat) : Int)), some (.ref h.length)] ∧ Grow h hh ∧ lstAt hh h.length = some (nD acc) ∧ acc ++ numB m = numB n ∧ m < 128 ^ (k + 1) ∧ acc.length + k ≤ 4
theorem w0 (c n : Nat) (h : DH) (hn : n < 34359738368) : WC (pg.run (c + 1)) 0 [.int (n : Int)] h (fun d h' => d = .ref h.length ∧ Grow h h' ∧ lstAt h' h.length = some (nD (numB n))) fun _ _ _ => False := by
  refine wc_of (f := f0) rfl e0 rfl ?_
  have zz : Z = 16777216 := rfl
  unfold b0
  simp [startD, f0, Dd.we_ret, Dd.we_bnd, Dd.we_lift, Dd.we_var, Dd.we_args_nil, Dd.we_args_cons, Dd.we_opN, Dd.we_op1, Dd.we_op2, Dd.we_call, Dd.we_tst, Dd.we_tru, Dd.we_notT, Dd.we_andT, Dd.we_orT, Dd.we_notV, Dd.we_andV, Dd.we_orV, Dd.we_ite, Dd.we_chn, Dd.we_mth, Dd.we_slice, Dd.we_intOf, Dd.nx_next, Dd.nx_ret, Dd.nx_ex, Dd.td_next, Dd.td_cont, Dd.td_brk, Dd.td_ret, Dd.td_ex, Dd.nx_brk, Dd.nx_cont, Dd.wp_skip, Dd.wp_seq, Dd.wp_drop, Dd.wp_ret, Dd.wp_asg, Dd.wp_if, Dd.wp_raise, Dd.wp_set, Dk.wp_aug, Dk.wp_brk, Dk.p_and127, Dk.p_and255, Dk.p_and1, Dk.p_shr8, Dk.p_shr16, Dk.p_shr24, Dk.p_ashr7, Dk.p_ashr8, Dk.p_aadd, Dk.p_asub, Dd.WO, Dk.eq_ss, Dk.ne_ss, Dk.eq_ii, Dk.ne_ii, Dk.isNot_non, Dk.q_add, Dk.q_addt, Dk.q_sub, Dk.q_mod, Dk.q_fdiv, Dk.q_mulr, Dk.q_mull, Dk.q_neg, Dk.q_lt, Dk.q_le, Dk.q_gt, Dk.q_ge, Dk.q_ix0, Dk.q_ix1, Dk.q_ix2, Dk.q_is_t, Dk.q_is_s, Dk.q_is_lt, Dk.q_is_ll, Dk.q_tru, Dk.q_lent, Dk.q_lenr, Dk.q_int, Dk.q_intb, Dk.q_abs, Dk.q_tupr, Dk.q_lstt, Dk.q_lst, Dk.q_tup, Dk.q_oka, Dk.q_oke, Dk.q_okj, Dk.q_app, Dk.q_ext, Dk.q_nm, Dk.q_tp, Dk.q_sa0, Dk.q_sa1, Dk.q_isn, Dk.q_isb, Dk.q_wipe0, Dk.q_wipe1]
  refine wp_while (N := 4) (I0 n h) (by decide) ⟨n, [], rfl, Grow.one h _, lst_new, rfl, by omega, by decide⟩ ?_
  rintro k e hh ⟨m, acc, rfl, g, l, q, hm, hk⟩
  have az : acc.length < Z := by omega
  by_cases c0 : m < 128
  · have c1 : ¬ (127 < (m : Int)) := by omega
    simp [Dd.we_ret, Dd.we_bnd, Dd.we_lift, Dd.we_var, Dd.we_args_nil, Dd.we_args_cons, Dd.we_opN, Dd.we_op1, Dd.we_op2, Dd.we_call, Dd.we_tst, Dd.we_tru, Dd.we_notT, Dd.we_andT, Dd.we_orT, Dd.we_notV, Dd.we_andV, Dd.we_orV, Dd.we_ite, Dd.we_chn, Dd.we_mth, Dd.we_slice, Dd.we_intOf, Dd.nx_next, Dd.nx_ret, Dd.nx_ex, Dd.td_next, Dd.td_cont, Dd.td_brk, Dd.td_ret, Dd.td_ex, Dd.nx_brk, Dd.nx_cont, Dd.wp_skip, Dd.wp_seq, Dd.wp_drop, Dd.wp_ret, Dd.wp_asg, Dd.wp_if, Dd.wp_raise, Dd.wp_set, Dk.wp_aug, Dk.wp_brk, Dk.p_and127, Dk.p_and255, Dk.p_and1, Dk.p_shr8, Dk.p_shr16, Dk.p_shr24, Dk.p_ashr7, Dk.p_ashr8, Dk.p_aadd, Dk.p_asub, Dd.WO, Dk.eq_ss, Dk.ne_ss, Dk.eq_ii, Dk.ne_ii, Dk.isNot_non, Dk.q_add, Dk.q_addt, Dk.q_sub, Dk.q_mod, Dk.q_fdiv, Dk.q_mulr, Dk.q_mull, Dk.q_neg, Dk.q_lt, Dk.q_le, Dk.q_gt, Dk.q_ge, Dk.q_ix0, Dk.q_ix1, Dk.q_ix2, Dk.q_is_t, Dk.q_is_s, Dk.q_is_lt, Dk.q_is_ll, Dk.q_tru, Dk.q_lent, Dk.q_lenr, Dk.q_int, Dk.q_intb, Dk.q_abs, Dk.q_tupr, Dk.q_lstt, Dk.q_lst, Dk.q_tup, Dk.q_oka, Dk.q_oke, Dk.q_okj, Dk.q_app, Dk.q_ext, Dk.q_nm, Dk.q_tp, Dk.q_sa0, Dk.q_sa1, Dk.q_isn, Dk.q_isb, Dk.q_wipe0, Dk.q_wipe1, c1, l, nD_len, az, end_ret]
    refine ⟨g.set _ (Nat.le_refl _), ?_⟩
    rw [← q, numB_lt c0, nD_app]
    exact lst_set l
  · have c1 : 127 < (m : Int) := by omega
    cases k with
    | zero => omega
    | succ k =>
      have hm2 : m / 128 < 128 ^ (k + 1) := by
        rw [Nat.pow_succ] at hm
        exact Nat.div_lt_of_lt_mul (by rw [Nat.mul_comm]; exact hm)
      simp [Dd.we_ret, Dd.we_bnd, Dd.we_lift, Dd.we_var, Dd.we_args_nil, Dd.we_args_cons, Dd.we_opN, Dd.we_op1, Dd.we_op2, Dd.we_call, Dd.we_tst, Dd.we_tru, Dd.we_notT, Dd.we_andT, Dd.we_orT, Dd.we_notV, Dd.we_andV, Dd.we_orV, Dd.we_ite, Dd.we_chn, Dd.we_mth, Dd.we_slice, Dd.we_intOf, Dd.nx_next, Dd.nx_ret, Dd.nx_ex, Dd.td_next, Dd.td_cont, Dd.td_brk, Dd.td_ret, Dd.td_ex, Dd.nx_brk, Dd.nx_cont, Dd.wp_skip, Dd.wp_seq, Dd.wp_drop, Dd.wp_ret, Dd.wp_asg, Dd.wp_if, Dd.wp_raise, Dd.wp_set, Dk.wp_aug, Dk.wp_brk, Dk.p_and127, Dk.p_and255, Dk.p_and1, Dk.p_shr8, Dk.p_shr16, Dk.p_shr24, Dk.p_ashr7, Dk.p_ashr8, Dk.p_aadd, Dk.p_asub, Dd.WO, Dk.eq_ss, Dk.ne_ss, Dk.eq_ii, Dk.ne_ii, Dk.isNot_non, Dk.q_add, Dk.q_addt, Dk.q_sub, Dk.q_mod, Dk.q_fdiv, Dk.q_mulr, Dk.q_mull, Dk.q_neg, Dk.q_lt, Dk.q_le, Dk.q_gt, Dk.q_ge, Dk.q_ix0, Dk.q_ix1, Dk.q_ix2, Dk.q_is_t, Dk.q_is_s, Dk.q_is_lt, Dk.q_is_ll, Dk.q_tru, Dk.q_lent, Dk.q_lenr, Dk.q_int, Dk.q_intb, Dk.q_abs, Dk.q_tupr, Dk.q_lstt, Dk.q_lst, Dk.q_tup, Dk.q_oka, Dk.q_oke, Dk.q_okj, Dk.q_app, Dk.q_ext, Dk.q_nm, Dk.q_tp, Dk.q_sa0, Dk.q_sa1, Dk.q_isn, Dk.q_isb, Dk.q_wipe0, Dk.q_wipe1, c1, l, nD_len, az, p_or128]
      refine ⟨m / 128, acc ++ [m % 128 + 128], rfl, g.set _ (Nat.le_refl _), ?_, ?_, hm2, by rw [List.length_append]; show acc.length + 1 + k ≤ 4; omega⟩
      · rw [nD_app]; exact lst_set l
      · rw [← q, numB_ge c0, List.append_assoc]; rfl
def I15 (n : Nat) (h : DH) (k : Nat) (e : DE) (hh : DH) : Prop := ∃ m acc x, e = [some (.int ((m : Nat) : Int)), some (.ref h.length), x] ∧ Grow h hh ∧ lstAt hh h.length = some (nD acc) ∧ acc ++ numB m = numB n ∧ (m < 128 ∨ m < 128 ^ (5 - k)) ∧ acc.length ≤ k
theorem w15 (c n : Nat) (h : DH) (hn : n < 34359738368) : WC (pg.run (c + 1)) 15 [.int (n : Int)] h (fun d h' => ∃ i, d = .ref i ∧ h.length ≤ i ∧ Grow h h' ∧ lstAt h' i = some (nD (numB n))) fun _ _ _ => False := by
  refine wc_of (f := f15) rfl e15 rfl ?_
  have zz : Z = 16777216 := rfl
  unfold b15
  simp [startD, f15, Dd.we_ret, Dd.we_bnd, Dd.we_lift, Dd.we_var, Dd.we_args_nil, Dd.we_args_cons, Dd.we_opN, Dd.we_op1, Dd.we_op2, Dd.we_call, Dd.we_tst, Dd.we_tru, Dd.we_notT, Dd.we_andT, Dd.we_orT, Dd.we_notV, Dd.we_andV, Dd.we_orV, Dd.we_ite, Dd.we_chn, Dd.we_mth, Dd.we_slice, Dd.we_intOf, Dd.nx_next, Dd.nx_ret, Dd.nx_ex, Dd.td_next, Dd.td_cont, Dd.td_brk, Dd.td_ret, Dd.td_ex, Dd.nx_brk, Dd.nx_cont, Dd.wp_skip, Dd.wp_seq, Dd.wp_drop, Dd.wp_ret, Dd.wp_asg, Dd.wp_if, Dd.wp_raise, Dd.wp_set, Dk.wp_aug, Dk.wp_brk, Dk.p_and127, Dk.p_and255, Dk.p_and1, Dk.p_shr8, Dk.p_shr16, Dk.p_shr24, Dk.p_ashr7, Dk.p_ashr8, Dk.p_aadd, Dk.p_asub, Dd.WO, Dk.eq_ss, Dk.ne_ss, Dk.eq_ii, Dk.ne_ii, Dk.isNot_non, Dk.q_add, Dk.q_addt, Dk.q_sub, Dk.q_mod, Dk.q_fdiv, Dk.q_mulr, Dk.q_mull, Dk.q_neg, Dk.q_lt, Dk.q_le, Dk.q_gt, Dk.q_ge, Dk.q_ix0, Dk.q_ix1, Dk.q_ix2, Dk.q_is_t, Dk.q_is_s, Dk.q_is_lt, Dk.q_is_ll, Dk.q_tru, Dk.q_lent, Dk.q_lenr, Dk.q_int, Dk.q_intb, Dk.q_abs, Dk.q_tupr, Dk.q_lstt, Dk.q_lst, Dk.q_tup, Dk.q_oka, Dk.q_oke, Dk.q_okj, Dk.q_app, Dk.q_ext, Dk.q_nm, Dk.q_tp, Dk.q_sa0, Dk.q_sa1, Dk.q_isn, Dk.q_isb, Dk.q_wipe0, Dk.q_wipe1]
  refine for_rng (I15 n h) ?_
  simp only [we_ret]
  refine ⟨5, rfl, by decide, ⟨n, [], _, rfl, Grow.one h _, lst_new, rfl, .inr (by omega), Nat.le_refl _⟩, ?_, ?_⟩
  · rintro e hh ⟨m, acc, x, rfl, g, l, q, hm, hk⟩
    have hm' : m < 128 := by rcases hm with hm | hm <;> omega
    have l2 := (Grow.one hh (Ob.lst [D.int (m : Int)])).lst l
    have ad : addD (.ref h.length) (.ref hh.length) (hh ++ [Ob.lst [D.int (m : Int)]]) = some (.ref (hh.length + 1), hh ++ [Ob.lst [D.int (m : Int)], Ob.lst (nD acc ++ [D.int (m : Int)])]) := by
      simp only [addD, l2, lst_new]
      rw [if_pos (by rw [nD_len]; show acc.length + 1 ≤ Z; omega)]
      simp [newOb]
    simp [Dd.we_ret, Dd.we_bnd, Dd.we_lift, Dd.we_var, Dd.we_args_nil, Dd.we_args_cons, Dd.we_opN, Dd.we_op1, Dd.we_op2, Dd.we_call, Dd.we_tst, Dd.we_tru, Dd.we_notT, Dd.we_andT, Dd.we_orT, Dd.we_notV, Dd.we_andV, Dd.we_orV, Dd.we_ite, Dd.we_chn, Dd.we_mth, Dd.we_slice, Dd.we_intOf, Dd.nx_next, Dd.nx_ret, Dd.nx_ex, Dd.td_next, Dd.td_cont, Dd.td_brk, Dd.td_ret, Dd.td_ex, Dd.nx_brk, Dd.nx_cont, Dd.wp_skip, Dd.wp_seq, Dd.wp_drop, Dd.wp_ret, Dd.wp_asg, Dd.wp_if, Dd.wp_raise, Dd.wp_set, Dk.wp_aug, Dk.wp_brk, Dk.p_and127, Dk.p_and255, Dk.p_and1, Dk.p_shr8, Dk.p_shr16, Dk.p_shr24, Dk.p_ashr7, Dk.p_ashr8, Dk.p_aadd, Dk.p_asub, Dd.WO, Dk.eq_ss, Dk.ne_ss, Dk.eq_ii, Dk.ne_ii, Dk.isNot_non, Dk.q_add, Dk.q_addt, Dk.q_sub, Dk.q_mod, Dk.q_fdiv, Dk.q_mulr, Dk.q_mull, Dk.q_neg, Dk.q_lt, Dk.q_le, Dk.q_gt, Dk.q_ge, Dk.q_ix0, Dk.q_ix1, Dk.q_ix2, Dk.q_is_t, Dk.q_is_s, Dk.q_is_lt, Dk.q_is_ll, Dk.q_tru, Dk.q_lent, Dk.q_lenr, Dk.q_int, Dk.q_intb, Dk.q_abs, Dk.q_tupr, Dk.q_lstt, Dk.q_lst, Dk.q_tup, Dk.q_oka, Dk.q_oke, Dk.q_okj, Dk.q_app, Dk.q_ext, Dk.q_nm, Dk.q_tp, Dk.q_sa0, Dk.q_sa1, Dk.q_isn, Dk.q_isb, Dk.q_wipe0, Dk.q_wipe1, ad, end_ret]
    refine ⟨by have := g.le; omega, g.trans ⟨_, rfl⟩, ?_⟩
    rw [← q, numB_lt hm', nD_app]
    exact lst_app (k := 1) rfl rfl
  · rintro k e hh hk ⟨m, acc, x, rfl, g, l, q, hm, hl⟩
    have az : acc.length < Z := by omega
    refine ⟨_, rfl, ?_⟩
    by_cases c0 : m < 128
    · have c1 : ¬ (128 ≤ (m : Int)) := by omega
      simp [Dd.we_ret, Dd.we_bnd, Dd.we_lift, Dd.we_var, Dd.we_args_nil, Dd.we_args_cons, Dd.we_opN, Dd.we_op1, Dd.we_op2, Dd.we_call, Dd.we_tst, Dd.we_tru, Dd.we_notT, Dd.we_andT, Dd.we_orT, Dd.we_notV, Dd.we_andV, Dd.we_orV, Dd.we_ite, Dd.we_chn, Dd.we_mth, Dd.we_slice, Dd.we_intOf, Dd.nx_next, Dd.nx_ret, Dd.nx_ex, Dd.td_next, Dd.td_cont, Dd.td_brk, Dd.td_ret, Dd.td_ex, Dd.nx_brk, Dd.nx_cont, Dd.wp_skip, Dd.wp_seq, Dd.wp_drop, Dd.wp_ret, Dd.wp_asg, Dd.wp_if, Dd.wp_raise, Dd.wp_set, Dk.wp_aug, Dk.wp_brk, Dk.p_and127, Dk.p_and255, Dk.p_and1, Dk.p_shr8, Dk.p_shr16, Dk.p_shr24, Dk.p_ashr7, Dk.p_ashr8, Dk.p_aadd, Dk.p_asub, Dd.WO, Dk.eq_ss, Dk.ne_ss, Dk.eq_ii, Dk.ne_ii, Dk.isNot_non, Dk.q_add, Dk.q_addt, Dk.q_sub, Dk.q_mod, Dk.q_fdiv, Dk.q_mulr, Dk.q_mull, Dk.q_neg, Dk.q_lt, Dk.q_le, Dk.q_gt, Dk.q_ge, Dk.q_ix0, Dk.q_ix1, Dk.q_ix2, Dk.q_is_t, Dk.q_is_s, Dk.q_is_lt, Dk.q_is_ll, Dk.q_tru, Dk.q_lent, Dk.q_lenr, Dk.q_int, Dk.q_intb, Dk.q_abs, Dk.q_tupr, Dk.q_lstt, Dk.q_lst, Dk.q_tup, Dk.q_oka, Dk.q_oke, Dk.q_okj, Dk.q_app, Dk.q_ext, Dk.q_nm, Dk.q_tp, Dk.q_sa0, Dk.q_sa1, Dk.q_isn, Dk.q_isb, Dk.q_wipe0, Dk.q_wipe1, c1]
      exact ⟨m, acc, _, rfl, g, l, q, .inl c0, by omega⟩
    · have c1 : 128 ≤ (m : Int) := by omega
      have e1 : ((m : Int) % 128 + 128) = ((m % 128 + 128 : Nat) : Int) := by omega
      have hm2 : m / 128 < 128 ^ (5 - (k + 1)) := by
        rcases hm with hm | hm
        · exact absurd hm c0
        · rw [show 5 - k = (5 - (k + 1)) + 1 from by omega, Nat.pow_succ] at hm
          exact Nat.div_lt_of_lt_mul (by rw [Nat.mul_comm]; exact hm)
      simp [Dd.we_ret, Dd.we_bnd, Dd.we_lift, Dd.we_var, Dd.we_args_nil, Dd.we_args_cons, Dd.we_opN, Dd.we_op1, Dd.we_op2, Dd.we_call, Dd.we_tst, Dd.we_tru, Dd.we_notT, Dd.we_andT, Dd.we_orT, Dd.we_notV, Dd.we_andV, Dd.we_orV, Dd.we_ite, Dd.we_chn, Dd.we_mth, Dd.we_slice, Dd.we_intOf, Dd.nx_next, Dd.nx_ret, Dd.nx_ex, Dd.td_next, Dd.td_cont, Dd.td_brk, Dd.td_ret, Dd.td_ex, Dd.nx_brk, Dd.nx_cont, Dd.wp_skip, Dd.wp_seq, Dd.wp_drop, Dd.wp_ret, Dd.wp_asg, Dd.wp_if, Dd.wp_raise, Dd.wp_set, Dk.wp_aug, Dk.wp_brk, Dk.p_and127, Dk.p_and255, Dk.p_and1, Dk.p_shr8, Dk.p_shr16, Dk.p_shr24, Dk.p_ashr7, Dk.p_ashr8, Dk.p_aadd, Dk.p_asub, Dd.WO, Dk.eq_ss, Dk.ne_ss, Dk.eq_ii, Dk.ne_ii, Dk.isNot_non, Dk.q_add, Dk.q_addt, Dk.q_sub, Dk.q_mod, Dk.q_fdiv, Dk.q_mulr, Dk.q_mull, Dk.q_neg, Dk.q_lt, Dk.q_le, Dk.q_gt, Dk.q_ge, Dk.q_ix0, Dk.q_ix1, Dk.q_ix2, Dk.q_is_t, Dk.q_is_s, Dk.q_is_lt, Dk.q_is_ll, Dk.q_tru, Dk.q_lent, Dk.q_lenr, Dk.q_int, Dk.q_intb, Dk.q_abs, Dk.q_tupr, Dk.q_lstt, Dk.q_lst, Dk.q_tup, Dk.q_oka, Dk.q_oke, Dk.q_okj, Dk.q_app, Dk.q_ext, Dk.q_nm, Dk.q_tp, Dk.q_sa0, Dk.q_sa1, Dk.q_isn, Dk.q_isb, Dk.q_wipe0, Dk.q_wipe1, c1, l, nD_len, az]
      refine ⟨m / 128, acc ++ [m % 128 + 128], _, rfl, g.set _ (Nat.le_refl _), ?_, ?_, .inr hm2, by rw [List.length_append]; show acc.length + 1 ≤ k + 1; omega⟩
      · rw [nD_app]; exact lst_set l
      · rw [← q, numB_ge c0, List.append_assoc]; rfl
end Dk

set_option Elab.async false
set_option linter.all false
set_option maxRecDepth 100000
set_option maxHeartbeats 4000000
namespace Dk
open PySem PySem.Spec PyProof.Rows L2 Dd

/-- reading a number: bytes left, its place -/
def tk : Nat → Nat → List Nat → Option (Nat × Nat)
  | 0, _, _ => none
  | _ + 1, _, [] => none
  | r + 1, p, b :: bs => if b < 128 then (if b = 0 ∧ 0 < p then none else some (b, 1)) else (tk r (p + 1) bs).map fun x => (b % 128 + 128 * x.1, x.2 + 1)
theorem nD_get {bs : List Nat} {k : Nat} (hk : k < bs.length) : (nD bs)[k]? = some (.int (bs[k] : Int)) := by
  unfold nD
  rw [List.getElem?_map, List.getElem?_eq_getElem hk]; rfl
theorem nD_at {bs : List Nat} {i : Int} {k : Nat} (hi : i = (k : Int)) (hk : k < bs.length) : L2.atI (nD bs) i = some (.int (bs[k] : Int)) := atI_of hi (nD_get hk)
def I1 (i : Nat) (bs : List Nat) (at_ : Nat) (h : DH) (k : Nat) (e : DE) (hh : DH) : Prop := ∃ (m : Nat) (x y : Option D), e = [some (.ref i), some (.int (at_ : Int)), some (.int (m : Int)), x, y] ∧ hh = h ∧ m < 2 ^ (7 * k) ∧
  tk 5 0 (bs.drop at_) = (tk (5 - k) k (bs.drop (at_ + k))).map fun x => (m + 2 ^ (7 * k) * x.1, k + x.2)
theorem q_ixr (i : Nat) (j : Int) (h : DH) : ixD (.ref i) (.int j) h = (match h[i]? with
    | some (.lst xs) => pureO (L2.atI xs j) h
    | some _ => match dGet (.ref i) (.int j) h with
      | some (some d) => some (d, h)
      | _ => none
    | none => none) := rfl
theorem w1 (c i : Nat) (bs : List Nat) (at_ : Nat) (h : DH) (l : lstAt h i = some (nD bs)) (hb : ∀ b ∈ bs, b < 2 ^ 60) : WC (pg.run (c + 1)) 1 [.ref i, .int (at_ : Int)] h (fun d h' => h' = h ∧ ∃ n l, tk 5 0 (bs.drop at_) = some (n, l) ∧ d = .tup [.int (n : Int), .int ((at_ + l : Nat) : Int)]) fun c p h' => c = 0 ∧ h' = h ∧ tk 5 0 (bs.drop at_) = none := by
  refine wc_of (f := f1) rfl e1 rfl ?_
  unfold b1
  simp [startD, f1, Dd.we_ret, Dd.we_bnd, Dd.we_lift, Dd.we_var, Dd.we_args_nil, Dd.we_args_cons, Dd.we_opN, Dd.we_op1, Dd.we_op2, Dd.we_call, Dd.we_tst, Dd.we_tru, Dd.we_notT, Dd.we_andT, Dd.we_orT, Dd.we_notV, Dd.we_andV, Dd.we_orV, Dd.we_ite, Dd.we_chn, Dd.we_mth, Dd.we_slice, Dd.we_intOf, Dd.nx_next, Dd.nx_ret, Dd.nx_ex, Dd.td_next, Dd.td_cont, Dd.td_brk, Dd.td_ret, Dd.td_ex, Dd.nx_brk, Dd.nx_cont, Dd.wp_skip, Dd.wp_seq, Dd.wp_drop, Dd.wp_ret, Dd.wp_asg, Dd.wp_if, Dd.wp_raise, Dd.wp_set, Dk.wp_aug, Dk.wp_brk, Dk.p_and127, Dk.p_and255, Dk.p_and1, Dk.p_shr8, Dk.p_shr16, Dk.p_shr24, Dk.p_ashr7, Dk.p_ashr8, Dk.p_aadd, Dk.p_asub, Dd.WO, Dk.eq_ss, Dk.ne_ss, Dk.eq_ii, Dk.ne_ii, Dk.isNot_non, Dk.q_add, Dk.q_addt, Dk.q_sub, Dk.q_mod, Dk.q_fdiv, Dk.q_mulr, Dk.q_mull, Dk.q_neg, Dk.q_lt, Dk.q_le, Dk.q_gt, Dk.q_ge, Dk.q_ix0, Dk.q_ix1, Dk.q_ix2, Dk.q_is_t, Dk.q_is_s, Dk.q_is_lt, Dk.q_is_ll, Dk.q_tru, Dk.q_lent, Dk.q_lenr, Dk.q_int, Dk.q_intb, Dk.q_abs, Dk.q_tupr, Dk.q_lstt, Dk.q_lst, Dk.q_tup, Dk.q_oka, Dk.q_oke, Dk.q_okj, Dk.q_app, Dk.q_ext, Dk.q_nm, Dk.q_tp, Dk.q_sa0, Dk.q_sa1, Dk.q_isn, Dk.q_isb, Dk.q_wipe0, Dk.q_wipe1]
  refine for_rng (I1 i bs at_ h) ?_
  simp only [we_ret]
  refine ⟨5, rfl, by decide, ⟨0, _, _, rfl, rfl, by decide, by simp⟩, ?_, ?_⟩
  · rintro e hh ⟨m, x, y, rfl, rfl, hm, q⟩
    simp [Dd.we_ret, Dd.we_bnd, Dd.we_lift, Dd.we_var, Dd.we_args_nil, Dd.we_args_cons, Dd.we_opN, Dd.we_op1, Dd.we_op2, Dd.we_call, Dd.we_tst, Dd.we_tru, Dd.we_notT, Dd.we_andT, Dd.we_orT, Dd.we_notV, Dd.we_andV, Dd.we_orV, Dd.we_ite, Dd.we_chn, Dd.we_mth, Dd.we_slice, Dd.we_intOf, Dd.nx_next, Dd.nx_ret, Dd.nx_ex, Dd.td_next, Dd.td_cont, Dd.td_brk, Dd.td_ret, Dd.td_ex, Dd.nx_brk, Dd.nx_cont, Dd.wp_skip, Dd.wp_seq, Dd.wp_drop, Dd.wp_ret, Dd.wp_asg, Dd.wp_if, Dd.wp_raise, Dd.wp_set, Dk.wp_aug, Dk.wp_brk, Dk.p_and127, Dk.p_and255, Dk.p_and1, Dk.p_shr8, Dk.p_shr16, Dk.p_shr24, Dk.p_ashr7, Dk.p_ashr8, Dk.p_aadd, Dk.p_asub, Dd.WO, Dk.eq_ss, Dk.ne_ss, Dk.eq_ii, Dk.ne_ii, Dk.isNot_non, Dk.q_add, Dk.q_addt, Dk.q_sub, Dk.q_mod, Dk.q_fdiv, Dk.q_mulr, Dk.q_mull, Dk.q_neg, Dk.q_lt, Dk.q_le, Dk.q_gt, Dk.q_ge, Dk.q_ix0, Dk.q_ix1, Dk.q_ix2, Dk.q_is_t, Dk.q_is_s, Dk.q_is_lt, Dk.q_is_ll, Dk.q_tru, Dk.q_lent, Dk.q_lenr, Dk.q_int, Dk.q_intb, Dk.q_abs, Dk.q_tupr, Dk.q_lstt, Dk.q_lst, Dk.q_tup, Dk.q_oka, Dk.q_oke, Dk.q_okj, Dk.q_app, Dk.q_ext, Dk.q_nm, Dk.q_tp, Dk.q_sa0, Dk.q_sa1, Dk.q_isn, Dk.q_isb, Dk.q_wipe0, Dk.q_wipe1, end_ex]
    rw [q]; rfl
  · rintro k e hh hk ⟨m, x, y, rfl, rfl, hm, q⟩
    refine ⟨_, rfl, ?_⟩
    by_cases c0 : at_ + k < bs.length
    · have c1 : ¬ ((bs.length : Int) ≤ (at_ : Int) + (k : Int)) := by omega
      have q1 : L2.atI (nD bs) ((at_ : Int) + (k : Int)) = some (.int (bs[at_ + k] : Int)) := nD_at (by omega) c0
      obtain ⟨b, hb'⟩ : ∃ b, b = bs[at_ + k] := ⟨_, rfl⟩
      have hb2 : b < 2 ^ 60 := by rw [hb']; exact hb _ (List.getElem_mem _)
      have dr : bs.drop (at_ + k) = b :: bs.drop (at_ + (k + 1)) := by rw [hb']; exact List.drop_eq_getElem_cons c0
      rw [← hb'] at q1
      obtain ⟨v, hv⟩ : ∃ v, v = b % 128 * 2 ^ (7 * k) := ⟨_, rfl⟩
      have s1 : ∀ h, shlD (.int ((b : Int) % 128)) (.int (7 * (k : Int))) h = some (.int (v : Int), h) := fun h => by
        rw [hv]; exact p_shl (a := b % 128) (k := 7 * k) (by omega) (by omega) h
      have s2 : ∀ h, augOr (.int (m : Int)) (.int (v : Int)) h = some (.int ((m + v : Nat) : Int), h) := fun h => by
        rw [hv]; exact p_aor hm h
      obtain ⟨r, hr⟩ : ∃ r, 5 - k = r + 1 := ⟨4 - k, by omega⟩
      have r2 : 5 - (k + 1) = r := by omega
      rw [dr, hr] at q
      simp only [tk] at q
      by_cases c2 : b < 128
      · have c3 : (b : Int) < 128 := by omega
        have bm : b % 128 = b := by omega
        by_cases c4 : b = 0 ∧ 0 < k
        · have c5 : (b : Int) = 0 := by omega
          have c6 : (0 : Int) < (k : Int) := by omega
          rw [if_pos c2, if_pos c4] at q
          simp [Dd.we_ret, Dd.we_bnd, Dd.we_lift, Dd.we_var, Dd.we_args_nil, Dd.we_args_cons, Dd.we_opN, Dd.we_op1, Dd.we_op2, Dd.we_call, Dd.we_tst, Dd.we_tru, Dd.we_notT, Dd.we_andT, Dd.we_orT, Dd.we_notV, Dd.we_andV, Dd.we_orV, Dd.we_ite, Dd.we_chn, Dd.we_mth, Dd.we_slice, Dd.we_intOf, Dd.nx_next, Dd.nx_ret, Dd.nx_ex, Dd.td_next, Dd.td_cont, Dd.td_brk, Dd.td_ret, Dd.td_ex, Dd.nx_brk, Dd.nx_cont, Dd.wp_skip, Dd.wp_seq, Dd.wp_drop, Dd.wp_ret, Dd.wp_asg, Dd.wp_if, Dd.wp_raise, Dd.wp_set, Dk.wp_aug, Dk.wp_brk, Dk.p_and127, Dk.p_and255, Dk.p_and1, Dk.p_shr8, Dk.p_shr16, Dk.p_shr24, Dk.p_ashr7, Dk.p_ashr8, Dk.p_aadd, Dk.p_asub, Dd.WO, Dk.eq_ss, Dk.ne_ss, Dk.eq_ii, Dk.ne_ii, Dk.isNot_non, Dk.q_add, Dk.q_addt, Dk.q_sub, Dk.q_mod, Dk.q_fdiv, Dk.q_mulr, Dk.q_mull, Dk.q_neg, Dk.q_lt, Dk.q_le, Dk.q_gt, Dk.q_ge, Dk.q_ix0, Dk.q_ix1, Dk.q_ix2, Dk.q_is_t, Dk.q_is_s, Dk.q_is_lt, Dk.q_is_ll, Dk.q_tru, Dk.q_lent, Dk.q_lenr, Dk.q_int, Dk.q_intb, Dk.q_abs, Dk.q_tupr, Dk.q_lstt, Dk.q_lst, Dk.q_tup, Dk.q_oka, Dk.q_oke, Dk.q_okj, Dk.q_app, Dk.q_ext, Dk.q_nm, Dk.q_tp, Dk.q_sa0, Dk.q_sa1, Dk.q_isn, Dk.q_isb, Dk.q_wipe0, Dk.q_wipe1, lstAt_some l, nD_len, q_ixr, c1, q1, s1, s2, c3, end_ex, end_ret, q, Dd.pureO]
          exact c4
        · rw [if_pos c2, if_neg c4] at q
          have hmv : (m : Int) + (v : Int) = ((m + 2 ^ (7 * k) * b : Nat) : Int) := by rw [hv, bm, Nat.mul_comm]; norm_cast
          have hq : tk 5 0 (bs.drop at_) = some (m + 2 ^ (7 * k) * b, k + 1) := q
          simp [Dd.we_ret, Dd.we_bnd, Dd.we_lift, Dd.we_var, Dd.we_args_nil, Dd.we_args_cons, Dd.we_opN, Dd.we_op1, Dd.we_op2, Dd.we_call, Dd.we_tst, Dd.we_tru, Dd.we_notT, Dd.we_andT, Dd.we_orT, Dd.we_notV, Dd.we_andV, Dd.we_orV, Dd.we_ite, Dd.we_chn, Dd.we_mth, Dd.we_slice, Dd.we_intOf, Dd.nx_next, Dd.nx_ret, Dd.nx_ex, Dd.td_next, Dd.td_cont, Dd.td_brk, Dd.td_ret, Dd.td_ex, Dd.nx_brk, Dd.nx_cont, Dd.wp_skip, Dd.wp_seq, Dd.wp_drop, Dd.wp_ret, Dd.wp_asg, Dd.wp_if, Dd.wp_raise, Dd.wp_set, Dk.wp_aug, Dk.wp_brk, Dk.p_and127, Dk.p_and255, Dk.p_and1, Dk.p_shr8, Dk.p_shr16, Dk.p_shr24, Dk.p_ashr7, Dk.p_ashr8, Dk.p_aadd, Dk.p_asub, Dd.WO, Dk.eq_ss, Dk.ne_ss, Dk.eq_ii, Dk.ne_ii, Dk.isNot_non, Dk.q_add, Dk.q_addt, Dk.q_sub, Dk.q_mod, Dk.q_fdiv, Dk.q_mulr, Dk.q_mull, Dk.q_neg, Dk.q_lt, Dk.q_le, Dk.q_gt, Dk.q_ge, Dk.q_ix0, Dk.q_ix1, Dk.q_ix2, Dk.q_is_t, Dk.q_is_s, Dk.q_is_lt, Dk.q_is_ll, Dk.q_tru, Dk.q_lent, Dk.q_lenr, Dk.q_int, Dk.q_intb, Dk.q_abs, Dk.q_tupr, Dk.q_lstt, Dk.q_lst, Dk.q_tup, Dk.q_oka, Dk.q_oke, Dk.q_okj, Dk.q_app, Dk.q_ext, Dk.q_nm, Dk.q_tp, Dk.q_sa0, Dk.q_sa1, Dk.q_isn, Dk.q_isb, Dk.q_wipe0, Dk.q_wipe1, lstAt_some l, nD_len, q_ixr, c1, q1, s1, s2, c3, end_ret, end_ex, hq, Dd.pureO]
          have fin : ∃ n l, (m + 2 ^ (7 * k) * b = n ∧ k + 1 = l) ∧ (m : Int) + (v : Int) = (n : Int) ∧ (at_ : Int) + (k : Int) + 1 = (at_ : Int) + (l : Int) := ⟨_, _, ⟨rfl, rfl⟩, hmv, by omega⟩
          by_cases c5 : b = 0
          · exact .inr ⟨c5, by omega, fin⟩
          · exact .inl ⟨c5, fin⟩
      · rw [if_neg c2] at q
        have c3 : ¬ (b : Int) < 128 := by omega
        simp [Dd.we_ret, Dd.we_bnd, Dd.we_lift, Dd.we_var, Dd.we_args_nil, Dd.we_args_cons, Dd.we_opN, Dd.we_op1, Dd.we_op2, Dd.we_call, Dd.we_tst, Dd.we_tru, Dd.we_notT, Dd.we_andT, Dd.we_orT, Dd.we_notV, Dd.we_andV, Dd.we_orV, Dd.we_ite, Dd.we_chn, Dd.we_mth, Dd.we_slice, Dd.we_intOf, Dd.nx_next, Dd.nx_ret, Dd.nx_ex, Dd.td_next, Dd.td_cont, Dd.td_brk, Dd.td_ret, Dd.td_ex, Dd.nx_brk, Dd.nx_cont, Dd.wp_skip, Dd.wp_seq, Dd.wp_drop, Dd.wp_ret, Dd.wp_asg, Dd.wp_if, Dd.wp_raise, Dd.wp_set, Dk.wp_aug, Dk.wp_brk, Dk.p_and127, Dk.p_and255, Dk.p_and1, Dk.p_shr8, Dk.p_shr16, Dk.p_shr24, Dk.p_ashr7, Dk.p_ashr8, Dk.p_aadd, Dk.p_asub, Dd.WO, Dk.eq_ss, Dk.ne_ss, Dk.eq_ii, Dk.ne_ii, Dk.isNot_non, Dk.q_add, Dk.q_addt, Dk.q_sub, Dk.q_mod, Dk.q_fdiv, Dk.q_mulr, Dk.q_mull, Dk.q_neg, Dk.q_lt, Dk.q_le, Dk.q_gt, Dk.q_ge, Dk.q_ix0, Dk.q_ix1, Dk.q_ix2, Dk.q_is_t, Dk.q_is_s, Dk.q_is_lt, Dk.q_is_ll, Dk.q_tru, Dk.q_lent, Dk.q_lenr, Dk.q_int, Dk.q_intb, Dk.q_abs, Dk.q_tupr, Dk.q_lstt, Dk.q_lst, Dk.q_tup, Dk.q_oka, Dk.q_oke, Dk.q_okj, Dk.q_app, Dk.q_ext, Dk.q_nm, Dk.q_tp, Dk.q_sa0, Dk.q_sa1, Dk.q_isn, Dk.q_isb, Dk.q_wipe0, Dk.q_wipe1, lstAt_some l, nD_len, q_ixr, c1, q1, s1, s2, c3, Dd.pureO]
        have hp : 2 ^ (7 * (k + 1)) = 2 ^ (7 * k) * 128 := by rw [Nat.mul_add, Nat.pow_add]
        have hv2 : v + 2 ^ (7 * k) ≤ 2 ^ (7 * k) * 128 := by
          rw [hv, Nat.mul_comm, ← Nat.mul_succ]
          exact Nat.mul_le_mul_left _ (by omega)
        refine ⟨m + v, _, _, rfl, rfl, by rw [hp]; omega, ?_⟩
        rw [q, r2]
        cases tk r (k + 1) (bs.drop (at_ + (k + 1))) with
        | none => rfl
        | some x =>
          simp only [Option.map_some, Option.some.injEq, Prod.mk.injEq]
          refine ⟨?_, by omega⟩
          rw [hp, hv, Nat.mul_add, Nat.mul_comm (b % 128), Nat.add_assoc, Nat.mul_assoc]
    · have c1 : (bs.length : Int) ≤ (at_ : Int) + (k : Int) := by omega
      have dr : bs.drop (at_ + k) = [] := List.drop_eq_nil_iff.mpr (by omega)
      obtain ⟨r, hr⟩ : ∃ r, 5 - k = r + 1 := ⟨4 - k, by omega⟩
      simp [Dd.we_ret, Dd.we_bnd, Dd.we_lift, Dd.we_var, Dd.we_args_nil, Dd.we_args_cons, Dd.we_opN, Dd.we_op1, Dd.we_op2, Dd.we_call, Dd.we_tst, Dd.we_tru, Dd.we_notT, Dd.we_andT, Dd.we_orT, Dd.we_notV, Dd.we_andV, Dd.we_orV, Dd.we_ite, Dd.we_chn, Dd.we_mth, Dd.we_slice, Dd.we_intOf, Dd.nx_next, Dd.nx_ret, Dd.nx_ex, Dd.td_next, Dd.td_cont, Dd.td_brk, Dd.td_ret, Dd.td_ex, Dd.nx_brk, Dd.nx_cont, Dd.wp_skip, Dd.wp_seq, Dd.wp_drop, Dd.wp_ret, Dd.wp_asg, Dd.wp_if, Dd.wp_raise, Dd.wp_set, Dk.wp_aug, Dk.wp_brk, Dk.p_and127, Dk.p_and255, Dk.p_and1, Dk.p_shr8, Dk.p_shr16, Dk.p_shr24, Dk.p_ashr7, Dk.p_ashr8, Dk.p_aadd, Dk.p_asub, Dd.WO, Dk.eq_ss, Dk.ne_ss, Dk.eq_ii, Dk.ne_ii, Dk.isNot_non, Dk.q_add, Dk.q_addt, Dk.q_sub, Dk.q_mod, Dk.q_fdiv, Dk.q_mulr, Dk.q_mull, Dk.q_neg, Dk.q_lt, Dk.q_le, Dk.q_gt, Dk.q_ge, Dk.q_ix0, Dk.q_ix1, Dk.q_ix2, Dk.q_is_t, Dk.q_is_s, Dk.q_is_lt, Dk.q_is_ll, Dk.q_tru, Dk.q_lent, Dk.q_lenr, Dk.q_int, Dk.q_intb, Dk.q_abs, Dk.q_tupr, Dk.q_lstt, Dk.q_lst, Dk.q_tup, Dk.q_oka, Dk.q_oke, Dk.q_okj, Dk.q_app, Dk.q_ext, Dk.q_nm, Dk.q_tp, Dk.q_sa0, Dk.q_sa1, Dk.q_isn, Dk.q_isb, Dk.q_wipe0, Dk.q_wipe1, lstAt_some l, nD_len, c1, end_ex]
      rw [q, dr, hr]; rfl
end Dk

set_option Elab.async false
set_option linter.all false
set_option maxRecDepth 100000
set_option maxHeartbeats 4000000
namespace Dk
open PySem PySem.Spec PyProof.Rows L2 Dd

/-- the four bytes of a word -/
def wordB (n : Nat) : List Nat := [n % 256, n / 256 % 256, n / 65536 % 256, n / 16777216]
def w32 (w : Int) : Nat := (w % 4294967296).toNat
theorem nat_of {w : Int} {n : Nat} (h : w = (n : Int)) : D.int w = D.int (n : Int) := by rw [h]
theorem wordB_eq (w : Int) : [D.int (w % 256), D.int (w / 256 % 256), D.int (w / 65536 % 256), D.int (w / 16777216 % 256)] = nD (wordB (w32 w)) := by
  show _ = [D.int _, D.int _, D.int _, D.int _]
  rw [nat_of (w := w % 256) (n := w32 w % 256) (by unfold w32; omega), nat_of (w := w / 256 % 256) (n := w32 w / 256 % 256) (by unfold w32; omega), nat_of (w := w / 65536 % 256) (n := w32 w / 65536 % 256) (by unfold w32; omega), nat_of (w := w / 16777216 % 256) (n := w32 w / 16777216) (by unfold w32; omega)]
theorem w2 (c : Nat) (w : Int) (h : DH) : WC (pg.run (c + 1)) 2 [.int w] h (fun d h' => d = .ref h.length ∧ h' = h ++ [.lst (nD (wordB (w32 w)))]) fun _ _ _ => False := by
  refine wc_of (f := f2) rfl e2 rfl ?_
  have zz : Z = 16777216 := rfl
  unfold b2
  rw [← wordB_eq]
  simp [startD, f2, Dd.we_ret, Dd.we_bnd, Dd.we_lift, Dd.we_var, Dd.we_args_nil, Dd.we_args_cons, Dd.we_opN, Dd.we_op1, Dd.we_op2, Dd.we_call, Dd.we_tst, Dd.we_tru, Dd.we_notT, Dd.we_andT, Dd.we_orT, Dd.we_notV, Dd.we_andV, Dd.we_orV, Dd.we_ite, Dd.we_chn, Dd.we_mth, Dd.we_slice, Dd.we_intOf, Dd.nx_next, Dd.nx_ret, Dd.nx_ex, Dd.td_next, Dd.td_cont, Dd.td_brk, Dd.td_ret, Dd.td_ex, Dd.nx_brk, Dd.nx_cont, Dd.wp_skip, Dd.wp_seq, Dd.wp_drop, Dd.wp_ret, Dd.wp_asg, Dd.wp_if, Dd.wp_raise, Dd.wp_set, Dk.wp_aug, Dk.wp_brk, Dk.p_and127, Dk.p_and255, Dk.p_and1, Dk.p_shr8, Dk.p_shr16, Dk.p_shr24, Dk.p_ashr7, Dk.p_ashr8, Dk.p_aadd, Dk.p_asub, Dd.WO, Dk.eq_ss, Dk.ne_ss, Dk.eq_ii, Dk.ne_ii, Dk.isNot_non, Dk.q_add, Dk.q_addt, Dk.q_sub, Dk.q_mod, Dk.q_fdiv, Dk.q_mulr, Dk.q_mull, Dk.q_neg, Dk.q_lt, Dk.q_le, Dk.q_gt, Dk.q_ge, Dk.q_ix0, Dk.q_ix1, Dk.q_ix2, Dk.q_is_t, Dk.q_is_s, Dk.q_is_lt, Dk.q_is_ll, Dk.q_tru, Dk.q_lent, Dk.q_lenr, Dk.q_int, Dk.q_intb, Dk.q_abs, Dk.q_tupr, Dk.q_lstt, Dk.q_lst, Dk.q_tup, Dk.q_oka, Dk.q_oke, Dk.q_okj, Dk.q_app, Dk.q_ext, Dk.q_nm, Dk.q_tp, Dk.q_sa0, Dk.q_sa1, Dk.q_isn, Dk.q_isb, Dk.q_wipe0, Dk.q_wipe1, end_ret, newOb, p_and255, p_shr8, p_shr16, p_shr24]
theorem w16 (c : Nat) (w : Int) (h : DH) : WC (pg.run (c + 1)) 16 [.int w] h (fun d h' => d = .ref h.length ∧ h' = h ++ [.lst (nD (wordB (w32 w)))]) fun _ _ _ => False := by
  refine wc_of (f := f16) rfl e16 rfl ?_
  have zz : Z = 16777216 := rfl
  unfold b16
  have q : [D.int (w % 4294967296 % 256), D.int (w % 4294967296 / 256 % 256), D.int (w % 4294967296 / 65536 % 256), D.int (w % 4294967296 / 16777216)] = nD (wordB (w32 w)) := by
    rw [← wordB_eq, show w % 4294967296 % 256 = w % 256 from by omega, show w % 4294967296 / 256 % 256 = w / 256 % 256 from by omega, show w % 4294967296 / 65536 % 256 = w / 65536 % 256 from by omega, show w % 4294967296 / 16777216 = w / 16777216 % 256 from by omega]
  rw [← q]
  simp [startD, f16, Dd.we_ret, Dd.we_bnd, Dd.we_lift, Dd.we_var, Dd.we_args_nil, Dd.we_args_cons, Dd.we_opN, Dd.we_op1, Dd.we_op2, Dd.we_call, Dd.we_tst, Dd.we_tru, Dd.we_notT, Dd.we_andT, Dd.we_orT, Dd.we_notV, Dd.we_andV, Dd.we_orV, Dd.we_ite, Dd.we_chn, Dd.we_mth, Dd.we_slice, Dd.we_intOf, Dd.nx_next, Dd.nx_ret, Dd.nx_ex, Dd.td_next, Dd.td_cont, Dd.td_brk, Dd.td_ret, Dd.td_ex, Dd.nx_brk, Dd.nx_cont, Dd.wp_skip, Dd.wp_seq, Dd.wp_drop, Dd.wp_ret, Dd.wp_asg, Dd.wp_if, Dd.wp_raise, Dd.wp_set, Dk.wp_aug, Dk.wp_brk, Dk.p_and127, Dk.p_and255, Dk.p_and1, Dk.p_shr8, Dk.p_shr16, Dk.p_shr24, Dk.p_ashr7, Dk.p_ashr8, Dk.p_aadd, Dk.p_asub, Dd.WO, Dk.eq_ss, Dk.ne_ss, Dk.eq_ii, Dk.ne_ii, Dk.isNot_non, Dk.q_add, Dk.q_addt, Dk.q_sub, Dk.q_mod, Dk.q_fdiv, Dk.q_mulr, Dk.q_mull, Dk.q_neg, Dk.q_lt, Dk.q_le, Dk.q_gt, Dk.q_ge, Dk.q_ix0, Dk.q_ix1, Dk.q_ix2, Dk.q_is_t, Dk.q_is_s, Dk.q_is_lt, Dk.q_is_ll, Dk.q_tru, Dk.q_lent, Dk.q_lenr, Dk.q_int, Dk.q_intb, Dk.q_abs, Dk.q_tupr, Dk.q_lstt, Dk.q_lst, Dk.q_tup, Dk.q_oka, Dk.q_oke, Dk.q_okj, Dk.q_app, Dk.q_ext, Dk.q_nm, Dk.q_tp, Dk.q_sa0, Dk.q_sa1, Dk.q_isn, Dk.q_isb, Dk.q_wipe0, Dk.q_wipe1, end_ret, newOb]
/-- a word read -/
def wordV (bs : List Nat) (k : Nat) : Nat := bs.getD k 0 + bs.getD (k + 1) 0 * 256 + bs.getD (k + 2) 0 * 65536 + bs.getD (k + 3) 0 * 16777216
theorem or_add' {a b k v : Nat} (ha : a < 2 ^ k) (hv : v = b * 2 ^ k) (h : DH) : orD (.int (a : Int)) (.int (v : Int)) h = some (.int ((a + v : Nat) : Int), h) := by rw [hv]; exact p_or ha h
theorem p_shl' {a k v : Nat} (ha : a < 2 ^ 64) (hk : k ≤ 1000000) (hv : v = a * 2 ^ k) (h : DH) : shlD (.int (a : Int)) (.int (k : Int)) h = some (.int (v : Int), h) := by rw [hv]; exact p_shl ha hk h
theorem get_of {bs : List Nat} {k : Nat} (hk : k < bs.length) : bs[k] = bs.getD k 0 := by
  rw [List.getD_eq_getElem?_getD, List.getElem?_eq_getElem hk]; rfl
theorem w3 (c i : Nat) (bs : List Nat) (at_ : Nat) (h : DH) (l : lstAt h i = some (nD bs)) (hb : ∀ b ∈ bs, b < 256) : WC (pg.run (c + 1)) 3 [.ref i, .int (at_ : Int)] h (fun d h' => h' = h ∧ at_ + 4 ≤ bs.length ∧ d = .tup [.int (wordV bs at_ : Int), .int ((at_ + 4 : Nat) : Int)]) fun c p h' => c = 0 ∧ h' = h ∧ bs.length < at_ + 4 := by
  refine wc_of (f := f3) rfl e3 rfl ?_
  unfold b3
  by_cases c0 : at_ + 4 ≤ bs.length
  · have c1 : ¬ ((bs.length : Int) < (at_ : Int) + 4) := by omega
    have gt : ∀ j, at_ + j < bs.length → ∃ b, b = bs.getD (at_ + j) 0 ∧ b < 256 ∧ ∀ k : Int, k = ((at_ + j : Nat) : Int) → L2.atI (nD bs) k = some (.int (b : Int)) := fun j hj =>
      ⟨_, rfl, by rw [← get_of hj]; exact hb _ (List.getElem_mem _), fun k hk => by rw [← get_of hj]; exact nD_at hk hj⟩
    obtain ⟨x0, g0, y0, z0⟩ := gt 0 (by omega)
    obtain ⟨x1, g1, y1, z1⟩ := gt 1 (by omega)
    obtain ⟨x2, g2, y2, z2⟩ := gt 2 (by omega)
    obtain ⟨x3, g3, y3, z3⟩ := gt 3 (by omega)
    have z0 := z0 (at_ : Int) rfl
    have z1 := z1 ((at_ : Int) + 1) rfl
    have z2 := z2 ((at_ : Int) + 2) rfl
    have z3 := z3 ((at_ : Int) + 3) rfl
    obtain ⟨v1, t1⟩ : ∃ v, v = x1 * 2 ^ 8 := ⟨_, rfl⟩
    obtain ⟨v2, t2⟩ : ∃ v, v = x2 * 2 ^ 16 := ⟨_, rfl⟩
    obtain ⟨v3, t3⟩ : ∃ v, v = x3 * 2 ^ 24 := ⟨_, rfl⟩
    have s1 : ∀ h, shlD (.int (x1 : Int)) (.int 8) h = some (.int (v1 : Int), h) := fun h => p_shl' (k := 8) (by omega) (by decide) t1 h
    have s2 : ∀ h, shlD (.int (x2 : Int)) (.int 16) h = some (.int (v2 : Int), h) := fun h => p_shl' (k := 16) (by omega) (by decide) t2 h
    have s3 : ∀ h, shlD (.int (x3 : Int)) (.int 24) h = some (.int (v3 : Int), h) := fun h => p_shl' (k := 24) (by omega) (by decide) t3 h
    obtain ⟨u1, p1⟩ : ∃ u, u = x0 + v1 := ⟨_, rfl⟩
    obtain ⟨u2, p2⟩ : ∃ u, u = u1 + v2 := ⟨_, rfl⟩
    obtain ⟨u3, p3⟩ : ∃ u, u = u2 + v3 := ⟨_, rfl⟩
    have r1 : ∀ h, orD (.int (x0 : Int)) (.int (v1 : Int)) h = some (.int (u1 : Int), h) := fun h => by rw [p1]; exact or_add' (k := 8) (by omega) t1 h
    have r2 : ∀ h, orD (.int (u1 : Int)) (.int (v2 : Int)) h = some (.int (u2 : Int), h) := fun h => by rw [p2]; exact or_add' (k := 16) (by omega) t2 h
    have r3 : ∀ h, orD (.int (u2 : Int)) (.int (v3 : Int)) h = some (.int (u3 : Int), h) := fun h => by rw [p3]; exact or_add' (k := 24) (by omega) t3 h
    have fin : wordV bs at_ = u3 := by
      unfold wordV
      rw [show bs.getD at_ 0 = x0 from g0.symm, ← g1, ← g2, ← g3]; omega
    have zz : Z = 16777216 := rfl
    simp [startD, f3, Dd.we_ret, Dd.we_bnd, Dd.we_lift, Dd.we_var, Dd.we_args_nil, Dd.we_args_cons, Dd.we_opN, Dd.we_op1, Dd.we_op2, Dd.we_call, Dd.we_tst, Dd.we_tru, Dd.we_notT, Dd.we_andT, Dd.we_orT, Dd.we_notV, Dd.we_andV, Dd.we_orV, Dd.we_ite, Dd.we_chn, Dd.we_mth, Dd.we_slice, Dd.we_intOf, Dd.nx_next, Dd.nx_ret, Dd.nx_ex, Dd.td_next, Dd.td_cont, Dd.td_brk, Dd.td_ret, Dd.td_ex, Dd.nx_brk, Dd.nx_cont, Dd.wp_skip, Dd.wp_seq, Dd.wp_drop, Dd.wp_ret, Dd.wp_asg, Dd.wp_if, Dd.wp_raise, Dd.wp_set, Dk.wp_aug, Dk.wp_brk, Dk.p_and127, Dk.p_and255, Dk.p_and1, Dk.p_shr8, Dk.p_shr16, Dk.p_shr24, Dk.p_ashr7, Dk.p_ashr8, Dk.p_aadd, Dk.p_asub, Dd.WO, Dk.eq_ss, Dk.ne_ss, Dk.eq_ii, Dk.ne_ii, Dk.isNot_non, Dk.q_add, Dk.q_addt, Dk.q_sub, Dk.q_mod, Dk.q_fdiv, Dk.q_mulr, Dk.q_mull, Dk.q_neg, Dk.q_lt, Dk.q_le, Dk.q_gt, Dk.q_ge, Dk.q_ix0, Dk.q_ix1, Dk.q_ix2, Dk.q_is_t, Dk.q_is_s, Dk.q_is_lt, Dk.q_is_ll, Dk.q_tru, Dk.q_lent, Dk.q_lenr, Dk.q_int, Dk.q_intb, Dk.q_abs, Dk.q_tupr, Dk.q_lstt, Dk.q_lst, Dk.q_tup, Dk.q_oka, Dk.q_oke, Dk.q_okj, Dk.q_app, Dk.q_ext, Dk.q_nm, Dk.q_tp, Dk.q_sa0, Dk.q_sa1, Dk.q_isn, Dk.q_isb, Dk.q_wipe0, Dk.q_wipe1, lstAt_some l, nD_len, q_ixr, c1, z0, z1, z2, z3, Dd.pureO, s1, s2, s3, r1, r2, r3, end_ret, c0, fin]
  · have c1 : (bs.length : Int) < (at_ : Int) + 4 := by omega
    simp [startD, f3, Dd.we_ret, Dd.we_bnd, Dd.we_lift, Dd.we_var, Dd.we_args_nil, Dd.we_args_cons, Dd.we_opN, Dd.we_op1, Dd.we_op2, Dd.we_call, Dd.we_tst, Dd.we_tru, Dd.we_notT, Dd.we_andT, Dd.we_orT, Dd.we_notV, Dd.we_andV, Dd.we_orV, Dd.we_ite, Dd.we_chn, Dd.we_mth, Dd.we_slice, Dd.we_intOf, Dd.nx_next, Dd.nx_ret, Dd.nx_ex, Dd.td_next, Dd.td_cont, Dd.td_brk, Dd.td_ret, Dd.td_ex, Dd.nx_brk, Dd.nx_cont, Dd.wp_skip, Dd.wp_seq, Dd.wp_drop, Dd.wp_ret, Dd.wp_asg, Dd.wp_if, Dd.wp_raise, Dd.wp_set, Dk.wp_aug, Dk.wp_brk, Dk.p_and127, Dk.p_and255, Dk.p_and1, Dk.p_shr8, Dk.p_shr16, Dk.p_shr24, Dk.p_ashr7, Dk.p_ashr8, Dk.p_aadd, Dk.p_asub, Dd.WO, Dk.eq_ss, Dk.ne_ss, Dk.eq_ii, Dk.ne_ii, Dk.isNot_non, Dk.q_add, Dk.q_addt, Dk.q_sub, Dk.q_mod, Dk.q_fdiv, Dk.q_mulr, Dk.q_mull, Dk.q_neg, Dk.q_lt, Dk.q_le, Dk.q_gt, Dk.q_ge, Dk.q_ix0, Dk.q_ix1, Dk.q_ix2, Dk.q_is_t, Dk.q_is_s, Dk.q_is_lt, Dk.q_is_ll, Dk.q_tru, Dk.q_lent, Dk.q_lenr, Dk.q_int, Dk.q_intb, Dk.q_abs, Dk.q_tupr, Dk.q_lstt, Dk.q_lst, Dk.q_tup, Dk.q_oka, Dk.q_oke, Dk.q_okj, Dk.q_app, Dk.q_ext, Dk.q_nm, Dk.q_tp, Dk.q_sa0, Dk.q_sa1, Dk.q_isn, Dk.q_isb, Dk.q_wipe0, Dk.q_wipe1, lstAt_some l, nD_len, c1, end_ex]
    omega
def foldI (i : Int) : Int := if i < 0 then -2 * i - 1 else 2 * i
theorem w4 (c : Nat) (i : Int) (h : DH) : WC (pg.run (c + 1)) 4 [.int i] h (fun d h' => d = .int (foldI i) ∧ h' = h) fun _ _ _ => False := by
  refine wc_of (f := f4) rfl e4 rfl ?_
  unfold b4 foldI
  by_cases c0 : i < 0
  · simp [startD, f4, Dd.we_ret, Dd.we_bnd, Dd.we_lift, Dd.we_var, Dd.we_args_nil, Dd.we_args_cons, Dd.we_opN, Dd.we_op1, Dd.we_op2, Dd.we_call, Dd.we_tst, Dd.we_tru, Dd.we_notT, Dd.we_andT, Dd.we_orT, Dd.we_notV, Dd.we_andV, Dd.we_orV, Dd.we_ite, Dd.we_chn, Dd.we_mth, Dd.we_slice, Dd.we_intOf, Dd.nx_next, Dd.nx_ret, Dd.nx_ex, Dd.td_next, Dd.td_cont, Dd.td_brk, Dd.td_ret, Dd.td_ex, Dd.nx_brk, Dd.nx_cont, Dd.wp_skip, Dd.wp_seq, Dd.wp_drop, Dd.wp_ret, Dd.wp_asg, Dd.wp_if, Dd.wp_raise, Dd.wp_set, Dk.wp_aug, Dk.wp_brk, Dk.p_and127, Dk.p_and255, Dk.p_and1, Dk.p_shr8, Dk.p_shr16, Dk.p_shr24, Dk.p_ashr7, Dk.p_ashr8, Dk.p_aadd, Dk.p_asub, Dd.WO, Dk.eq_ss, Dk.ne_ss, Dk.eq_ii, Dk.ne_ii, Dk.isNot_non, Dk.q_add, Dk.q_addt, Dk.q_sub, Dk.q_mod, Dk.q_fdiv, Dk.q_mulr, Dk.q_mull, Dk.q_neg, Dk.q_lt, Dk.q_le, Dk.q_gt, Dk.q_ge, Dk.q_ix0, Dk.q_ix1, Dk.q_ix2, Dk.q_is_t, Dk.q_is_s, Dk.q_is_lt, Dk.q_is_ll, Dk.q_tru, Dk.q_lent, Dk.q_lenr, Dk.q_int, Dk.q_intb, Dk.q_abs, Dk.q_tupr, Dk.q_lstt, Dk.q_lst, Dk.q_tup, Dk.q_oka, Dk.q_oke, Dk.q_okj, Dk.q_app, Dk.q_ext, Dk.q_nm, Dk.q_tp, Dk.q_sa0, Dk.q_sa1, Dk.q_isn, Dk.q_isb, Dk.q_wipe0, Dk.q_wipe1, c0, end_ret]
  · simp [startD, f4, Dd.we_ret, Dd.we_bnd, Dd.we_lift, Dd.we_var, Dd.we_args_nil, Dd.we_args_cons, Dd.we_opN, Dd.we_op1, Dd.we_op2, Dd.we_call, Dd.we_tst, Dd.we_tru, Dd.we_notT, Dd.we_andT, Dd.we_orT, Dd.we_notV, Dd.we_andV, Dd.we_orV, Dd.we_ite, Dd.we_chn, Dd.we_mth, Dd.we_slice, Dd.we_intOf, Dd.nx_next, Dd.nx_ret, Dd.nx_ex, Dd.td_next, Dd.td_cont, Dd.td_brk, Dd.td_ret, Dd.td_ex, Dd.nx_brk, Dd.nx_cont, Dd.wp_skip, Dd.wp_seq, Dd.wp_drop, Dd.wp_ret, Dd.wp_asg, Dd.wp_if, Dd.wp_raise, Dd.wp_set, Dk.wp_aug, Dk.wp_brk, Dk.p_and127, Dk.p_and255, Dk.p_and1, Dk.p_shr8, Dk.p_shr16, Dk.p_shr24, Dk.p_ashr7, Dk.p_ashr8, Dk.p_aadd, Dk.p_asub, Dd.WO, Dk.eq_ss, Dk.ne_ss, Dk.eq_ii, Dk.ne_ii, Dk.isNot_non, Dk.q_add, Dk.q_addt, Dk.q_sub, Dk.q_mod, Dk.q_fdiv, Dk.q_mulr, Dk.q_mull, Dk.q_neg, Dk.q_lt, Dk.q_le, Dk.q_gt, Dk.q_ge, Dk.q_ix0, Dk.q_ix1, Dk.q_ix2, Dk.q_is_t, Dk.q_is_s, Dk.q_is_lt, Dk.q_is_ll, Dk.q_tru, Dk.q_lent, Dk.q_lenr, Dk.q_int, Dk.q_intb, Dk.q_abs, Dk.q_tupr, Dk.q_lstt, Dk.q_lst, Dk.q_tup, Dk.q_oka, Dk.q_oke, Dk.q_okj, Dk.q_app, Dk.q_ext, Dk.q_nm, Dk.q_tp, Dk.q_sa0, Dk.q_sa1, Dk.q_isn, Dk.q_isb, Dk.q_wipe0, Dk.q_wipe1, c0, end_ret]
def unfI (i : Int) : Int := if i % 2 = 1 then -(i / 2) - 1 else i / 2
theorem w5 (c : Nat) (i : Int) (h : DH) : WC (pg.run (c + 1)) 5 [.int i] h (fun d h' => d = .int (unfI i) ∧ h' = h) fun _ _ _ => False := by
  refine wc_of (f := f5) rfl e5 rfl ?_
  unfold b5 unfI
  by_cases c0 : i % 2 = 1
  · simp [startD, f5, Dd.we_ret, Dd.we_bnd, Dd.we_lift, Dd.we_var, Dd.we_args_nil, Dd.we_args_cons, Dd.we_opN, Dd.we_op1, Dd.we_op2, Dd.we_call, Dd.we_tst, Dd.we_tru, Dd.we_notT, Dd.we_andT, Dd.we_orT, Dd.we_notV, Dd.we_andV, Dd.we_orV, Dd.we_ite, Dd.we_chn, Dd.we_mth, Dd.we_slice, Dd.we_intOf, Dd.nx_next, Dd.nx_ret, Dd.nx_ex, Dd.td_next, Dd.td_cont, Dd.td_brk, Dd.td_ret, Dd.td_ex, Dd.nx_brk, Dd.nx_cont, Dd.wp_skip, Dd.wp_seq, Dd.wp_drop, Dd.wp_ret, Dd.wp_asg, Dd.wp_if, Dd.wp_raise, Dd.wp_set, Dk.wp_aug, Dk.wp_brk, Dk.p_and127, Dk.p_and255, Dk.p_and1, Dk.p_shr8, Dk.p_shr16, Dk.p_shr24, Dk.p_ashr7, Dk.p_ashr8, Dk.p_aadd, Dk.p_asub, Dd.WO, Dk.eq_ss, Dk.ne_ss, Dk.eq_ii, Dk.ne_ii, Dk.isNot_non, Dk.q_add, Dk.q_addt, Dk.q_sub, Dk.q_mod, Dk.q_fdiv, Dk.q_mulr, Dk.q_mull, Dk.q_neg, Dk.q_lt, Dk.q_le, Dk.q_gt, Dk.q_ge, Dk.q_ix0, Dk.q_ix1, Dk.q_ix2, Dk.q_is_t, Dk.q_is_s, Dk.q_is_lt, Dk.q_is_ll, Dk.q_tru, Dk.q_lent, Dk.q_lenr, Dk.q_int, Dk.q_intb, Dk.q_abs, Dk.q_tupr, Dk.q_lstt, Dk.q_lst, Dk.q_tup, Dk.q_oka, Dk.q_oke, Dk.q_okj, Dk.q_app, Dk.q_ext, Dk.q_nm, Dk.q_tp, Dk.q_sa0, Dk.q_sa1, Dk.q_isn, Dk.q_isb, Dk.q_wipe0, Dk.q_wipe1, c0, end_ret]
  · simp [startD, f5, Dd.we_ret, Dd.we_bnd, Dd.we_lift, Dd.we_var, Dd.we_args_nil, Dd.we_args_cons, Dd.we_opN, Dd.we_op1, Dd.we_op2, Dd.we_call, Dd.we_tst, Dd.we_tru, Dd.we_notT, Dd.we_andT, Dd.we_orT, Dd.we_notV, Dd.we_andV, Dd.we_orV, Dd.we_ite, Dd.we_chn, Dd.we_mth, Dd.we_slice, Dd.we_intOf, Dd.nx_next, Dd.nx_ret, Dd.nx_ex, Dd.td_next, Dd.td_cont, Dd.td_brk, Dd.td_ret, Dd.td_ex, Dd.nx_brk, Dd.nx_cont, Dd.wp_skip, Dd.wp_seq, Dd.wp_drop, Dd.wp_ret, Dd.wp_asg, Dd.wp_if, Dd.wp_raise, Dd.wp_set, Dk.wp_aug, Dk.wp_brk, Dk.p_and127, Dk.p_and255, Dk.p_and1, Dk.p_shr8, Dk.p_shr16, Dk.p_shr24, Dk.p_ashr7, Dk.p_ashr8, Dk.p_aadd, Dk.p_asub, Dd.WO, Dk.eq_ss, Dk.ne_ss, Dk.eq_ii, Dk.ne_ii, Dk.isNot_non, Dk.q_add, Dk.q_addt, Dk.q_sub, Dk.q_mod, Dk.q_fdiv, Dk.q_mulr, Dk.q_mull, Dk.q_neg, Dk.q_lt, Dk.q_le, Dk.q_gt, Dk.q_ge, Dk.q_ix0, Dk.q_ix1, Dk.q_ix2, Dk.q_is_t, Dk.q_is_s, Dk.q_is_lt, Dk.q_is_ll, Dk.q_tru, Dk.q_lent, Dk.q_lenr, Dk.q_int, Dk.q_intb, Dk.q_abs, Dk.q_tupr, Dk.q_lstt, Dk.q_lst, Dk.q_tup, Dk.q_oka, Dk.q_oke, Dk.q_okj, Dk.q_app, Dk.q_ext, Dk.q_nm, Dk.q_tp, Dk.q_sa0, Dk.q_sa1, Dk.q_isn, Dk.q_isb, Dk.q_wipe0, Dk.q_wipe1, c0, end_ret]
theorem unf_fold (i : Int) : unfI (foldI i) = i := by unfold unfI foldI; split <;> split <;> omega
def bitsN (n : Nat) : Nat := if n = 0 then 0 else n.log2 + 1
theorem w6 (c : Nat) (n : Nat) (h : DH) : WC (pg.run (c + 1)) 6 [.int (n : Int)] h (fun d h' => d = .int (bitsN n : Int) ∧ h' = h) fun _ _ _ => False := by
  refine wc_of (f := f6) rfl e6 rfl ?_
  unfold b6
  have q : ∀ h, bitsD (.int (n : Int)) h = some (.int (bitsN n : Int), h) := fun h => by
    show some (D.int ((PySem.Builtin.Int.intBits (n : Int) : Nat) : Int), h) = _
    congr 4
    unfold PySem.Builtin.Int.intBits bitsN
    by_cases c0 : n = 0
    · subst c0; rfl
    · rw [if_neg c0, if_neg (by simp; exact c0)]; rfl
  simp [startD, f6, Dd.we_ret, Dd.we_bnd, Dd.we_lift, Dd.we_var, Dd.we_args_nil, Dd.we_args_cons, Dd.we_opN, Dd.we_op1, Dd.we_op2, Dd.we_call, Dd.we_tst, Dd.we_tru, Dd.we_notT, Dd.we_andT, Dd.we_orT, Dd.we_notV, Dd.we_andV, Dd.we_orV, Dd.we_ite, Dd.we_chn, Dd.we_mth, Dd.we_slice, Dd.we_intOf, Dd.nx_next, Dd.nx_ret, Dd.nx_ex, Dd.td_next, Dd.td_cont, Dd.td_brk, Dd.td_ret, Dd.td_ex, Dd.nx_brk, Dd.nx_cont, Dd.wp_skip, Dd.wp_seq, Dd.wp_drop, Dd.wp_ret, Dd.wp_asg, Dd.wp_if, Dd.wp_raise, Dd.wp_set, Dk.wp_aug, Dk.wp_brk, Dk.p_and127, Dk.p_and255, Dk.p_and1, Dk.p_shr8, Dk.p_shr16, Dk.p_shr24, Dk.p_ashr7, Dk.p_ashr8, Dk.p_aadd, Dk.p_asub, Dd.WO, Dk.eq_ss, Dk.ne_ss, Dk.eq_ii, Dk.ne_ii, Dk.isNot_non, Dk.q_add, Dk.q_addt, Dk.q_sub, Dk.q_mod, Dk.q_fdiv, Dk.q_mulr, Dk.q_mull, Dk.q_neg, Dk.q_lt, Dk.q_le, Dk.q_gt, Dk.q_ge, Dk.q_ix0, Dk.q_ix1, Dk.q_ix2, Dk.q_is_t, Dk.q_is_s, Dk.q_is_lt, Dk.q_is_ll, Dk.q_tru, Dk.q_lent, Dk.q_lenr, Dk.q_int, Dk.q_intb, Dk.q_abs, Dk.q_tupr, Dk.q_lstt, Dk.q_lst, Dk.q_tup, Dk.q_oka, Dk.q_oke, Dk.q_okj, Dk.q_app, Dk.q_ext, Dk.q_nm, Dk.q_tp, Dk.q_sa0, Dk.q_sa1, Dk.q_isn, Dk.q_isb, Dk.q_wipe0, Dk.q_wipe1, q, end_ret]
theorem bits_half {m : Nat} (hm : 0 < m) : bitsN (m / 2) + 1 = bitsN m := by
  unfold bitsN
  by_cases c0 : m / 2 = 0
  · have : m = 1 := by omega
    subst this; rfl
  · rw [if_neg c0, if_neg (by omega)]
    conv => rhs; rw [Nat.log2_def]
    rw [if_pos (by omega)]
def I17 (n : Nat) (h : DH) (k : Nat) (e : DE) (hh : DH) : Prop := ∃ (m w : Nat) (x : Option D), e = [some (.int (m : Int)), some (.int (w : Int)), x] ∧ hh = h ∧ w + bitsN m = bitsN n ∧ m < 2 ^ (40 - k)
theorem w17 (c n : Nat) (h : DH) (hn : n < 2 ^ 40) : WC (pg.run (c + 1)) 17 [.int (n : Int)] h (fun d h' => d = .int (bitsN n : Int) ∧ h' = h) fun _ _ _ => False := by
  refine wc_of (f := f17) rfl e17 rfl ?_
  unfold b17
  simp [startD, f17, Dd.we_ret, Dd.we_bnd, Dd.we_lift, Dd.we_var, Dd.we_args_nil, Dd.we_args_cons, Dd.we_opN, Dd.we_op1, Dd.we_op2, Dd.we_call, Dd.we_tst, Dd.we_tru, Dd.we_notT, Dd.we_andT, Dd.we_orT, Dd.we_notV, Dd.we_andV, Dd.we_orV, Dd.we_ite, Dd.we_chn, Dd.we_mth, Dd.we_slice, Dd.we_intOf, Dd.nx_next, Dd.nx_ret, Dd.nx_ex, Dd.td_next, Dd.td_cont, Dd.td_brk, Dd.td_ret, Dd.td_ex, Dd.nx_brk, Dd.nx_cont, Dd.wp_skip, Dd.wp_seq, Dd.wp_drop, Dd.wp_ret, Dd.wp_asg, Dd.wp_if, Dd.wp_raise, Dd.wp_set, Dk.wp_aug, Dk.wp_brk, Dk.p_and127, Dk.p_and255, Dk.p_and1, Dk.p_shr8, Dk.p_shr16, Dk.p_shr24, Dk.p_ashr7, Dk.p_ashr8, Dk.p_aadd, Dk.p_asub, Dd.WO, Dk.eq_ss, Dk.ne_ss, Dk.eq_ii, Dk.ne_ii, Dk.isNot_non, Dk.q_add, Dk.q_addt, Dk.q_sub, Dk.q_mod, Dk.q_fdiv, Dk.q_mulr, Dk.q_mull, Dk.q_neg, Dk.q_lt, Dk.q_le, Dk.q_gt, Dk.q_ge, Dk.q_ix0, Dk.q_ix1, Dk.q_ix2, Dk.q_is_t, Dk.q_is_s, Dk.q_is_lt, Dk.q_is_ll, Dk.q_tru, Dk.q_lent, Dk.q_lenr, Dk.q_int, Dk.q_intb, Dk.q_abs, Dk.q_tupr, Dk.q_lstt, Dk.q_lst, Dk.q_tup, Dk.q_oka, Dk.q_oke, Dk.q_okj, Dk.q_app, Dk.q_ext, Dk.q_nm, Dk.q_tp, Dk.q_sa0, Dk.q_sa1, Dk.q_isn, Dk.q_isb, Dk.q_wipe0, Dk.q_wipe1]
  refine for_rng (I17 n h) ?_
  simp only [we_ret]
  refine ⟨40, rfl, by decide, ⟨n, 0, _, rfl, rfl, Nat.zero_add _, hn⟩, ?_, ?_⟩
  · rintro e hh ⟨m, w, x, rfl, rfl, q, hm⟩
    have : m = 0 := by omega
    subst this
    simp [Dd.we_ret, Dd.we_bnd, Dd.we_lift, Dd.we_var, Dd.we_args_nil, Dd.we_args_cons, Dd.we_opN, Dd.we_op1, Dd.we_op2, Dd.we_call, Dd.we_tst, Dd.we_tru, Dd.we_notT, Dd.we_andT, Dd.we_orT, Dd.we_notV, Dd.we_andV, Dd.we_orV, Dd.we_ite, Dd.we_chn, Dd.we_mth, Dd.we_slice, Dd.we_intOf, Dd.nx_next, Dd.nx_ret, Dd.nx_ex, Dd.td_next, Dd.td_cont, Dd.td_brk, Dd.td_ret, Dd.td_ex, Dd.nx_brk, Dd.nx_cont, Dd.wp_skip, Dd.wp_seq, Dd.wp_drop, Dd.wp_ret, Dd.wp_asg, Dd.wp_if, Dd.wp_raise, Dd.wp_set, Dk.wp_aug, Dk.wp_brk, Dk.p_and127, Dk.p_and255, Dk.p_and1, Dk.p_shr8, Dk.p_shr16, Dk.p_shr24, Dk.p_ashr7, Dk.p_ashr8, Dk.p_aadd, Dk.p_asub, Dd.WO, Dk.eq_ss, Dk.ne_ss, Dk.eq_ii, Dk.ne_ii, Dk.isNot_non, Dk.q_add, Dk.q_addt, Dk.q_sub, Dk.q_mod, Dk.q_fdiv, Dk.q_mulr, Dk.q_mull, Dk.q_neg, Dk.q_lt, Dk.q_le, Dk.q_gt, Dk.q_ge, Dk.q_ix0, Dk.q_ix1, Dk.q_ix2, Dk.q_is_t, Dk.q_is_s, Dk.q_is_lt, Dk.q_is_ll, Dk.q_tru, Dk.q_lent, Dk.q_lenr, Dk.q_int, Dk.q_intb, Dk.q_abs, Dk.q_tupr, Dk.q_lstt, Dk.q_lst, Dk.q_tup, Dk.q_oka, Dk.q_oke, Dk.q_okj, Dk.q_app, Dk.q_ext, Dk.q_nm, Dk.q_tp, Dk.q_sa0, Dk.q_sa1, Dk.q_isn, Dk.q_isb, Dk.q_wipe0, Dk.q_wipe1, end_ret]
    exact congrArg _ q
  · rintro k e hh hk ⟨m, w, x, rfl, rfl, q, hm⟩
    refine ⟨_, rfl, ?_⟩
    by_cases c0 : 0 < m
    · have c1 : (0 : Int) < (m : Int) := by omega
      simp [Dd.we_ret, Dd.we_bnd, Dd.we_lift, Dd.we_var, Dd.we_args_nil, Dd.we_args_cons, Dd.we_opN, Dd.we_op1, Dd.we_op2, Dd.we_call, Dd.we_tst, Dd.we_tru, Dd.we_notT, Dd.we_andT, Dd.we_orT, Dd.we_notV, Dd.we_andV, Dd.we_orV, Dd.we_ite, Dd.we_chn, Dd.we_mth, Dd.we_slice, Dd.we_intOf, Dd.nx_next, Dd.nx_ret, Dd.nx_ex, Dd.td_next, Dd.td_cont, Dd.td_brk, Dd.td_ret, Dd.td_ex, Dd.nx_brk, Dd.nx_cont, Dd.wp_skip, Dd.wp_seq, Dd.wp_drop, Dd.wp_ret, Dd.wp_asg, Dd.wp_if, Dd.wp_raise, Dd.wp_set, Dk.wp_aug, Dk.wp_brk, Dk.p_and127, Dk.p_and255, Dk.p_and1, Dk.p_shr8, Dk.p_shr16, Dk.p_shr24, Dk.p_ashr7, Dk.p_ashr8, Dk.p_aadd, Dk.p_asub, Dd.WO, Dk.eq_ss, Dk.ne_ss, Dk.eq_ii, Dk.ne_ii, Dk.isNot_non, Dk.q_add, Dk.q_addt, Dk.q_sub, Dk.q_mod, Dk.q_fdiv, Dk.q_mulr, Dk.q_mull, Dk.q_neg, Dk.q_lt, Dk.q_le, Dk.q_gt, Dk.q_ge, Dk.q_ix0, Dk.q_ix1, Dk.q_ix2, Dk.q_is_t, Dk.q_is_s, Dk.q_is_lt, Dk.q_is_ll, Dk.q_tru, Dk.q_lent, Dk.q_lenr, Dk.q_int, Dk.q_intb, Dk.q_abs, Dk.q_tupr, Dk.q_lstt, Dk.q_lst, Dk.q_tup, Dk.q_oka, Dk.q_oke, Dk.q_okj, Dk.q_app, Dk.q_ext, Dk.q_nm, Dk.q_tp, Dk.q_sa0, Dk.q_sa1, Dk.q_isn, Dk.q_isb, Dk.q_wipe0, Dk.q_wipe1, c0, c1]
      refine ⟨m / 2, w + 1, _, rfl, rfl, by have := bits_half c0; omega, ?_⟩
      rw [show 40 - k = (40 - (k + 1)) + 1 from by omega, Nat.pow_succ] at hm
      omega
    · have c1 : ¬ (0 : Int) < (m : Int) := by omega
      have : m = 0 := by omega
      subst this
      simp [Dd.we_ret, Dd.we_bnd, Dd.we_lift, Dd.we_var, Dd.we_args_nil, Dd.we_args_cons, Dd.we_opN, Dd.we_op1, Dd.we_op2, Dd.we_call, Dd.we_tst, Dd.we_tru, Dd.we_notT, Dd.we_andT, Dd.we_orT, Dd.we_notV, Dd.we_andV, Dd.we_orV, Dd.we_ite, Dd.we_chn, Dd.we_mth, Dd.we_slice, Dd.we_intOf, Dd.nx_next, Dd.nx_ret, Dd.nx_ex, Dd.td_next, Dd.td_cont, Dd.td_brk, Dd.td_ret, Dd.td_ex, Dd.nx_brk, Dd.nx_cont, Dd.wp_skip, Dd.wp_seq, Dd.wp_drop, Dd.wp_ret, Dd.wp_asg, Dd.wp_if, Dd.wp_raise, Dd.wp_set, Dk.wp_aug, Dk.wp_brk, Dk.p_and127, Dk.p_and255, Dk.p_and1, Dk.p_shr8, Dk.p_shr16, Dk.p_shr24, Dk.p_ashr7, Dk.p_ashr8, Dk.p_aadd, Dk.p_asub, Dd.WO, Dk.eq_ss, Dk.ne_ss, Dk.eq_ii, Dk.ne_ii, Dk.isNot_non, Dk.q_add, Dk.q_addt, Dk.q_sub, Dk.q_mod, Dk.q_fdiv, Dk.q_mulr, Dk.q_mull, Dk.q_neg, Dk.q_lt, Dk.q_le, Dk.q_gt, Dk.q_ge, Dk.q_ix0, Dk.q_ix1, Dk.q_ix2, Dk.q_is_t, Dk.q_is_s, Dk.q_is_lt, Dk.q_is_ll, Dk.q_tru, Dk.q_lent, Dk.q_lenr, Dk.q_int, Dk.q_intb, Dk.q_abs, Dk.q_tupr, Dk.q_lstt, Dk.q_lst, Dk.q_tup, Dk.q_oka, Dk.q_oke, Dk.q_okj, Dk.q_app, Dk.q_ext, Dk.q_nm, Dk.q_tp, Dk.q_sa0, Dk.q_sa1, Dk.q_isn, Dk.q_isb, Dk.q_wipe0, Dk.q_wipe1]
      exact ⟨0, w, _, rfl, rfl, q, Nat.two_pow_pos _⟩
end Dk

set_option Elab.async false
set_option linter.all false
set_option maxRecDepth 100000
set_option maxHeartbeats 4000000
namespace Dk
open PySem PySem.Spec PyProof.Rows L2 Dd

def cellN (ns : List Int) (k : Nat) : Int := ns.getD k 0
theorem w13 (n : Nat) (ns : List Int) (k : Nat) (h : DH) : WC (pg.run (n + 1)) 13 [.frz ns, .int (k : Int)] h (fun d h' => d = .int (cellN ns k) ∧ h' = h) fun _ _ _ => False := by
  refine wc_of (f := f13) rfl e13 rfl ?_
  unfold cellN
  have qf : bltD .len [.frz ns] h = some (.int (ns.length : Int), h) := rfl
  have qx : ixD (.frz ns) (.int (k : Int)) h = pureO ((L2.atI ns (k : Int)).map D.int) h := rfl
  by_cases hl' : k < ns.length
  · have ha : L2.atI ns (k : Int) = some ns[k] := atI_of rfl (List.getElem?_eq_getElem hl')
    simp [b13, startD, f13, Dd.we_ret, Dd.we_bnd, Dd.we_lift, Dd.we_var, Dd.we_args_nil, Dd.we_args_cons, Dd.we_opN, Dd.we_op1, Dd.we_op2, Dd.we_call, Dd.we_tst, Dd.we_tru, Dd.we_notT, Dd.we_andT, Dd.we_orT, Dd.we_notV, Dd.we_andV, Dd.we_orV, Dd.we_ite, Dd.we_chn, Dd.we_mth, Dd.we_slice, Dd.we_intOf, Dd.nx_next, Dd.nx_ret, Dd.nx_ex, Dd.td_next, Dd.td_cont, Dd.td_brk, Dd.td_ret, Dd.td_ex, Dd.nx_brk, Dd.nx_cont, Dd.wp_skip, Dd.wp_seq, Dd.wp_drop, Dd.wp_ret, Dd.wp_asg, Dd.wp_if, Dd.wp_raise, Dd.wp_set, Dk.wp_aug, Dk.wp_brk, Dk.p_and127, Dk.p_and255, Dk.p_and1, Dk.p_shr8, Dk.p_shr16, Dk.p_shr24, Dk.p_ashr7, Dk.p_ashr8, Dk.p_aadd, Dk.p_asub, Dd.WO, Dk.eq_ss, Dk.ne_ss, Dk.eq_ii, Dk.ne_ii, Dk.isNot_non, Dk.q_add, Dk.q_addt, Dk.q_sub, Dk.q_mod, Dk.q_fdiv, Dk.q_mulr, Dk.q_mull, Dk.q_neg, Dk.q_lt, Dk.q_le, Dk.q_gt, Dk.q_ge, Dk.q_ix0, Dk.q_ix1, Dk.q_ix2, Dk.q_is_t, Dk.q_is_s, Dk.q_is_lt, Dk.q_is_ll, Dk.q_tru, Dk.q_lent, Dk.q_lenr, Dk.q_int, Dk.q_intb, Dk.q_abs, Dk.q_tupr, Dk.q_lstt, Dk.q_lst, Dk.q_tup, Dk.q_oka, Dk.q_oke, Dk.q_okj, Dk.q_app, Dk.q_ext, Dk.q_nm, Dk.q_tp, Dk.q_sa0, Dk.q_sa1, Dk.q_isn, Dk.q_isb, Dk.q_wipe0, Dk.q_wipe1, hl', ha, end_ret, qf, qx, Dd.pureO]
  · simp [b13, startD, f13, Dd.we_ret, Dd.we_bnd, Dd.we_lift, Dd.we_var, Dd.we_args_nil, Dd.we_args_cons, Dd.we_opN, Dd.we_op1, Dd.we_op2, Dd.we_call, Dd.we_tst, Dd.we_tru, Dd.we_notT, Dd.we_andT, Dd.we_orT, Dd.we_notV, Dd.we_andV, Dd.we_orV, Dd.we_ite, Dd.we_chn, Dd.we_mth, Dd.we_slice, Dd.we_intOf, Dd.nx_next, Dd.nx_ret, Dd.nx_ex, Dd.td_next, Dd.td_cont, Dd.td_brk, Dd.td_ret, Dd.td_ex, Dd.nx_brk, Dd.nx_cont, Dd.wp_skip, Dd.wp_seq, Dd.wp_drop, Dd.wp_ret, Dd.wp_asg, Dd.wp_if, Dd.wp_raise, Dd.wp_set, Dk.wp_aug, Dk.wp_brk, Dk.p_and127, Dk.p_and255, Dk.p_and1, Dk.p_shr8, Dk.p_shr16, Dk.p_shr24, Dk.p_ashr7, Dk.p_ashr8, Dk.p_aadd, Dk.p_asub, Dd.WO, Dk.eq_ss, Dk.ne_ss, Dk.eq_ii, Dk.ne_ii, Dk.isNot_non, Dk.q_add, Dk.q_addt, Dk.q_sub, Dk.q_mod, Dk.q_fdiv, Dk.q_mulr, Dk.q_mull, Dk.q_neg, Dk.q_lt, Dk.q_le, Dk.q_gt, Dk.q_ge, Dk.q_ix0, Dk.q_ix1, Dk.q_ix2, Dk.q_is_t, Dk.q_is_s, Dk.q_is_lt, Dk.q_is_ll, Dk.q_tru, Dk.q_lent, Dk.q_lenr, Dk.q_int, Dk.q_intb, Dk.q_abs, Dk.q_tupr, Dk.q_lstt, Dk.q_lst, Dk.q_tup, Dk.q_oka, Dk.q_oke, Dk.q_okj, Dk.q_app, Dk.q_ext, Dk.q_nm, Dk.q_tp, Dk.q_sa0, Dk.q_sa1, Dk.q_isn, Dk.q_isb, Dk.q_wipe0, Dk.q_wipe1, hl', end_ret, qf]
/-- its numbers -/
def NumI (h : DH) (c : Int) (many : Nat) (k : Nat) (e : DE) (hh : DH) : Prop := (∃ rest x, e = [some (.int c), some (.int (many : Int)), some (.ref h.length), some (.int rest), x] ∧ 0 ≤ rest) ∧ Grow h hh ∧ ∃ ns : List Nat, lstAt hh h.length = some (nD ns) ∧ ns.length = k ∧ ∀ x ∈ ns, x < 1048576
theorem num_more {h hh : DH} {k : Nat} {ns : List Nat} {v : Int} (g : Grow h hh) (l1 : lstAt hh h.length = some (nD ns)) (l2 : ns.length = k) (l3 : ∀ x ∈ ns, x < 1048576) (hv : 0 ≤ v) (hv2 : v < 1048576) :
    Grow h (hh.set h.length (.lst (nD ns ++ [.int v]))) ∧ ∃ ms : List Nat, lstAt (hh.set h.length (.lst (nD ns ++ [.int v]))) h.length = some (nD ms) ∧ ms.length = k + 1 ∧ ∀ x ∈ ms, x < 1048576 := by
  refine ⟨g.set _ (Nat.le_refl _), ns ++ [v.toNat], ?_, by rw [List.length_append, l2]; rfl, fun y hy => ?_⟩
  · rw [nD_app, show nD [v.toNat] = [D.int v] from by show [D.int _] = _; rw [show ((v.toNat : Nat) : Int) = v from by omega]]
    exact lst_set l1
  · rcases List.mem_append.mp hy with hy | hy
    · exact l3 y hy
    · rw [List.mem_singleton.mp hy]; omega
theorem w14 (n : Nat) (c : Int) (many : Nat) (hmany : many ≤ 100) (h : DH) : WC (pg.run (n + 1)) 14 [.int c, .int (many : Int)] h (fun d h' => d = .ref h.length ∧ Grow h h' ∧ ∃ ns : List Nat, lstAt h' h.length = some (nD ns) ∧ ns.length = many ∧ ∀ x ∈ ns, x < 1048576) fun _ _ _ => False := by
  refine wc_of (f := f14) rfl e14 rfl ?_
  have zz : Z = 16777216 := rfl
  have az : ∀ {k}, k < many → k < Z := fun h => by omega
  have s62 : in62 (many : Int) = true := in62_nat (by omega)
  have s1 : ∀ (i : Int) (h : DH), mulD (.int i) (.int 48271) h = some (.int (i * 48271), h) := fun i h => mul_r (by decide)
  have s2 : ∀ (i : Int) (h : DH), mulD (.int i) (.int 7919) h = some (.int (i * 7919), h) := fun i h => mul_r (by decide)
  have s3 : ∀ (i : Int) (h : DH), mulD (.int i) (.int 69621) h = some (.int (i * 69621), h) := fun i h => mul_r (by decide)
  obtain ⟨r, hr⟩ : ∃ r, r = if c < 0 then -c else c := ⟨_, rfl⟩
  have hr0 : 0 ≤ r := by rw [hr]; split <;> omega
  unfold b14
  by_cases hb : (1000000000000000000 : Int) ≤ r
  · simp [startD, f14, Dd.we_ret, Dd.we_bnd, Dd.we_lift, Dd.we_var, Dd.we_args_nil, Dd.we_args_cons, Dd.we_opN, Dd.we_op1, Dd.we_op2, Dd.we_call, Dd.we_tst, Dd.we_tru, Dd.we_notT, Dd.we_andT, Dd.we_orT, Dd.we_notV, Dd.we_andV, Dd.we_orV, Dd.we_ite, Dd.we_chn, Dd.we_mth, Dd.we_slice, Dd.we_intOf, Dd.nx_next, Dd.nx_ret, Dd.nx_ex, Dd.td_next, Dd.td_cont, Dd.td_brk, Dd.td_ret, Dd.td_ex, Dd.nx_brk, Dd.nx_cont, Dd.wp_skip, Dd.wp_seq, Dd.wp_drop, Dd.wp_ret, Dd.wp_asg, Dd.wp_if, Dd.wp_raise, Dd.wp_set, Dk.wp_aug, Dk.wp_brk, Dk.p_and127, Dk.p_and255, Dk.p_and1, Dk.p_shr8, Dk.p_shr16, Dk.p_shr24, Dk.p_ashr7, Dk.p_ashr8, Dk.p_aadd, Dk.p_asub, Dd.WO, Dk.eq_ss, Dk.ne_ss, Dk.eq_ii, Dk.ne_ii, Dk.isNot_non, Dk.q_add, Dk.q_addt, Dk.q_sub, Dk.q_mod, Dk.q_fdiv, Dk.q_mulr, Dk.q_mull, Dk.q_neg, Dk.q_lt, Dk.q_le, Dk.q_gt, Dk.q_ge, Dk.q_ix0, Dk.q_ix1, Dk.q_ix2, Dk.q_is_t, Dk.q_is_s, Dk.q_is_lt, Dk.q_is_ll, Dk.q_tru, Dk.q_lent, Dk.q_lenr, Dk.q_int, Dk.q_intb, Dk.q_abs, Dk.q_tupr, Dk.q_lstt, Dk.q_lst, Dk.q_tup, Dk.q_oka, Dk.q_oke, Dk.q_okj, Dk.q_app, Dk.q_ext, Dk.q_nm, Dk.q_tp, Dk.q_sa0, Dk.q_sa1, Dk.q_isn, Dk.q_isb, Dk.q_wipe0, Dk.q_wipe1, ← hr, hb]
    refine for_rng (NumI h c many) ?_
    simp only [Dd.we_ret, Dd.we_bnd, Dd.we_lift, Dd.we_var, Dd.we_args_nil, Dd.we_args_cons, Dd.we_opN, Dd.we_op1, Dd.we_op2, Dd.we_call, Dd.we_tst, Dd.we_tru, Dd.we_notT, Dd.we_andT, Dd.we_orT, Dd.we_notV, Dd.we_andV, Dd.we_orV, Dd.we_ite, Dd.we_chn, Dd.we_mth, Dd.we_slice, Dd.we_intOf, Dd.nx_next, Dd.nx_ret, Dd.nx_ex, Dd.td_next, Dd.td_cont, Dd.td_brk, Dd.td_ret, Dd.td_ex, Dd.nx_brk, Dd.nx_cont, Dd.wp_skip, Dd.wp_seq, Dd.wp_drop, Dd.wp_ret, Dd.wp_asg, Dd.wp_if, Dd.wp_raise, Dd.wp_set]
    refine ⟨.int (many : Int), rfl, many, rfl, s62, ⟨⟨_, _, rfl, hr0⟩, Grow.one h _, [], lst_new, rfl, fun _ z => nomatch z⟩, ?_, ?_⟩
    · rintro e h' ⟨⟨rest, x, rfl, h0⟩, g, q⟩
      simp [Dd.we_ret, Dd.we_bnd, Dd.we_lift, Dd.we_var, Dd.we_args_nil, Dd.we_args_cons, Dd.we_opN, Dd.we_op1, Dd.we_op2, Dd.we_call, Dd.we_tst, Dd.we_tru, Dd.we_notT, Dd.we_andT, Dd.we_orT, Dd.we_notV, Dd.we_andV, Dd.we_orV, Dd.we_ite, Dd.we_chn, Dd.we_mth, Dd.we_slice, Dd.we_intOf, Dd.nx_next, Dd.nx_ret, Dd.nx_ex, Dd.td_next, Dd.td_cont, Dd.td_brk, Dd.td_ret, Dd.td_ex, Dd.nx_brk, Dd.nx_cont, Dd.wp_skip, Dd.wp_seq, Dd.wp_drop, Dd.wp_ret, Dd.wp_asg, Dd.wp_if, Dd.wp_raise, Dd.wp_set, Dk.wp_aug, Dk.wp_brk, Dk.p_and127, Dk.p_and255, Dk.p_and1, Dk.p_shr8, Dk.p_shr16, Dk.p_shr24, Dk.p_ashr7, Dk.p_ashr8, Dk.p_aadd, Dk.p_asub, Dd.WO, Dk.eq_ss, Dk.ne_ss, Dk.eq_ii, Dk.ne_ii, Dk.isNot_non, Dk.q_add, Dk.q_addt, Dk.q_sub, Dk.q_mod, Dk.q_fdiv, Dk.q_mulr, Dk.q_mull, Dk.q_neg, Dk.q_lt, Dk.q_le, Dk.q_gt, Dk.q_ge, Dk.q_ix0, Dk.q_ix1, Dk.q_ix2, Dk.q_is_t, Dk.q_is_s, Dk.q_is_lt, Dk.q_is_ll, Dk.q_tru, Dk.q_lent, Dk.q_lenr, Dk.q_int, Dk.q_intb, Dk.q_abs, Dk.q_tupr, Dk.q_lstt, Dk.q_lst, Dk.q_tup, Dk.q_oka, Dk.q_oke, Dk.q_okj, Dk.q_app, Dk.q_ext, Dk.q_nm, Dk.q_tp, Dk.q_sa0, Dk.q_sa1, Dk.q_isn, Dk.q_isb, Dk.q_wipe0, Dk.q_wipe1, end_ret]
      exact ⟨g, q⟩
    · rintro k e h' hk ⟨⟨rest, x, rfl, h0⟩, g, ns, l1, l2, l3⟩
      have := az hk
      simp [Dd.we_ret, Dd.we_bnd, Dd.we_lift, Dd.we_var, Dd.we_args_nil, Dd.we_args_cons, Dd.we_opN, Dd.we_op1, Dd.we_op2, Dd.we_call, Dd.we_tst, Dd.we_tru, Dd.we_notT, Dd.we_andT, Dd.we_orT, Dd.we_notV, Dd.we_andV, Dd.we_orV, Dd.we_ite, Dd.we_chn, Dd.we_mth, Dd.we_slice, Dd.we_intOf, Dd.nx_next, Dd.nx_ret, Dd.nx_ex, Dd.td_next, Dd.td_cont, Dd.td_brk, Dd.td_ret, Dd.td_ex, Dd.nx_brk, Dd.nx_cont, Dd.wp_skip, Dd.wp_seq, Dd.wp_drop, Dd.wp_ret, Dd.wp_asg, Dd.wp_if, Dd.wp_raise, Dd.wp_set, Dk.wp_aug, Dk.wp_brk, Dk.p_and127, Dk.p_and255, Dk.p_and1, Dk.p_shr8, Dk.p_shr16, Dk.p_shr24, Dk.p_ashr7, Dk.p_ashr8, Dk.p_aadd, Dk.p_asub, Dd.WO, Dk.eq_ss, Dk.ne_ss, Dk.eq_ii, Dk.ne_ii, Dk.isNot_non, Dk.q_add, Dk.q_addt, Dk.q_sub, Dk.q_mod, Dk.q_fdiv, Dk.q_mulr, Dk.q_mull, Dk.q_neg, Dk.q_lt, Dk.q_le, Dk.q_gt, Dk.q_ge, Dk.q_ix0, Dk.q_ix1, Dk.q_ix2, Dk.q_is_t, Dk.q_is_s, Dk.q_is_lt, Dk.q_is_ll, Dk.q_tru, Dk.q_lent, Dk.q_lenr, Dk.q_int, Dk.q_intb, Dk.q_abs, Dk.q_tupr, Dk.q_lstt, Dk.q_lst, Dk.q_tup, Dk.q_oka, Dk.q_oke, Dk.q_okj, Dk.q_app, Dk.q_ext, Dk.q_nm, Dk.q_tp, Dk.q_sa0, Dk.q_sa1, Dk.q_isn, Dk.q_isb, Dk.q_wipe0, Dk.q_wipe1, l1, nD_len, l2, this]
      exact ⟨⟨_, _, rfl, by omega⟩, num_more g l1 l2 l3 (Int.emod_nonneg _ (by decide)) (Int.emod_lt_of_pos _ (by decide))⟩
  · simp [startD, f14, Dd.we_ret, Dd.we_bnd, Dd.we_lift, Dd.we_var, Dd.we_args_nil, Dd.we_args_cons, Dd.we_opN, Dd.we_op1, Dd.we_op2, Dd.we_call, Dd.we_tst, Dd.we_tru, Dd.we_notT, Dd.we_andT, Dd.we_orT, Dd.we_notV, Dd.we_andV, Dd.we_orV, Dd.we_ite, Dd.we_chn, Dd.we_mth, Dd.we_slice, Dd.we_intOf, Dd.nx_next, Dd.nx_ret, Dd.nx_ex, Dd.td_next, Dd.td_cont, Dd.td_brk, Dd.td_ret, Dd.td_ex, Dd.nx_brk, Dd.nx_cont, Dd.wp_skip, Dd.wp_seq, Dd.wp_drop, Dd.wp_ret, Dd.wp_asg, Dd.wp_if, Dd.wp_raise, Dd.wp_set, Dk.wp_aug, Dk.wp_brk, Dk.p_and127, Dk.p_and255, Dk.p_and1, Dk.p_shr8, Dk.p_shr16, Dk.p_shr24, Dk.p_ashr7, Dk.p_ashr8, Dk.p_aadd, Dk.p_asub, Dd.WO, Dk.eq_ss, Dk.ne_ss, Dk.eq_ii, Dk.ne_ii, Dk.isNot_non, Dk.q_add, Dk.q_addt, Dk.q_sub, Dk.q_mod, Dk.q_fdiv, Dk.q_mulr, Dk.q_mull, Dk.q_neg, Dk.q_lt, Dk.q_le, Dk.q_gt, Dk.q_ge, Dk.q_ix0, Dk.q_ix1, Dk.q_ix2, Dk.q_is_t, Dk.q_is_s, Dk.q_is_lt, Dk.q_is_ll, Dk.q_tru, Dk.q_lent, Dk.q_lenr, Dk.q_int, Dk.q_intb, Dk.q_abs, Dk.q_tupr, Dk.q_lstt, Dk.q_lst, Dk.q_tup, Dk.q_oka, Dk.q_oke, Dk.q_okj, Dk.q_app, Dk.q_ext, Dk.q_nm, Dk.q_tp, Dk.q_sa0, Dk.q_sa1, Dk.q_isn, Dk.q_isb, Dk.q_wipe0, Dk.q_wipe1, ← hr, hb]
    refine for_rng (NumI h c many) ?_
    simp only [Dd.we_ret, Dd.we_bnd, Dd.we_lift, Dd.we_var, Dd.we_args_nil, Dd.we_args_cons, Dd.we_opN, Dd.we_op1, Dd.we_op2, Dd.we_call, Dd.we_tst, Dd.we_tru, Dd.we_notT, Dd.we_andT, Dd.we_orT, Dd.we_notV, Dd.we_andV, Dd.we_orV, Dd.we_ite, Dd.we_chn, Dd.we_mth, Dd.we_slice, Dd.we_intOf, Dd.nx_next, Dd.nx_ret, Dd.nx_ex, Dd.td_next, Dd.td_cont, Dd.td_brk, Dd.td_ret, Dd.td_ex, Dd.nx_brk, Dd.nx_cont, Dd.wp_skip, Dd.wp_seq, Dd.wp_drop, Dd.wp_ret, Dd.wp_asg, Dd.wp_if, Dd.wp_raise, Dd.wp_set]
    refine ⟨.int (many : Int), rfl, many, rfl, s62, ⟨⟨_, _, rfl, hr0⟩, Grow.one h _, [], lst_new, rfl, fun _ z => nomatch z⟩, ?_, ?_⟩
    · rintro e h' ⟨⟨rest, x, rfl, h0⟩, g, q⟩
      simp [Dd.we_ret, Dd.we_bnd, Dd.we_lift, Dd.we_var, Dd.we_args_nil, Dd.we_args_cons, Dd.we_opN, Dd.we_op1, Dd.we_op2, Dd.we_call, Dd.we_tst, Dd.we_tru, Dd.we_notT, Dd.we_andT, Dd.we_orT, Dd.we_notV, Dd.we_andV, Dd.we_orV, Dd.we_ite, Dd.we_chn, Dd.we_mth, Dd.we_slice, Dd.we_intOf, Dd.nx_next, Dd.nx_ret, Dd.nx_ex, Dd.td_next, Dd.td_cont, Dd.td_brk, Dd.td_ret, Dd.td_ex, Dd.nx_brk, Dd.nx_cont, Dd.wp_skip, Dd.wp_seq, Dd.wp_drop, Dd.wp_ret, Dd.wp_asg, Dd.wp_if, Dd.wp_raise, Dd.wp_set, Dk.wp_aug, Dk.wp_brk, Dk.p_and127, Dk.p_and255, Dk.p_and1, Dk.p_shr8, Dk.p_shr16, Dk.p_shr24, Dk.p_ashr7, Dk.p_ashr8, Dk.p_aadd, Dk.p_asub, Dd.WO, Dk.eq_ss, Dk.ne_ss, Dk.eq_ii, Dk.ne_ii, Dk.isNot_non, Dk.q_add, Dk.q_addt, Dk.q_sub, Dk.q_mod, Dk.q_fdiv, Dk.q_mulr, Dk.q_mull, Dk.q_neg, Dk.q_lt, Dk.q_le, Dk.q_gt, Dk.q_ge, Dk.q_ix0, Dk.q_ix1, Dk.q_ix2, Dk.q_is_t, Dk.q_is_s, Dk.q_is_lt, Dk.q_is_ll, Dk.q_tru, Dk.q_lent, Dk.q_lenr, Dk.q_int, Dk.q_intb, Dk.q_abs, Dk.q_tupr, Dk.q_lstt, Dk.q_lst, Dk.q_tup, Dk.q_oka, Dk.q_oke, Dk.q_okj, Dk.q_app, Dk.q_ext, Dk.q_nm, Dk.q_tp, Dk.q_sa0, Dk.q_sa1, Dk.q_isn, Dk.q_isb, Dk.q_wipe0, Dk.q_wipe1, end_ret]
      exact ⟨g, q⟩
    · rintro k e h' hk ⟨⟨rest, x, rfl, h0⟩, g, ns, l1, l2, l3⟩
      have := az hk
      simp [Dd.we_ret, Dd.we_bnd, Dd.we_lift, Dd.we_var, Dd.we_args_nil, Dd.we_args_cons, Dd.we_opN, Dd.we_op1, Dd.we_op2, Dd.we_call, Dd.we_tst, Dd.we_tru, Dd.we_notT, Dd.we_andT, Dd.we_orT, Dd.we_notV, Dd.we_andV, Dd.we_orV, Dd.we_ite, Dd.we_chn, Dd.we_mth, Dd.we_slice, Dd.we_intOf, Dd.nx_next, Dd.nx_ret, Dd.nx_ex, Dd.td_next, Dd.td_cont, Dd.td_brk, Dd.td_ret, Dd.td_ex, Dd.nx_brk, Dd.nx_cont, Dd.wp_skip, Dd.wp_seq, Dd.wp_drop, Dd.wp_ret, Dd.wp_asg, Dd.wp_if, Dd.wp_raise, Dd.wp_set, Dk.wp_aug, Dk.wp_brk, Dk.p_and127, Dk.p_and255, Dk.p_and1, Dk.p_shr8, Dk.p_shr16, Dk.p_shr24, Dk.p_ashr7, Dk.p_ashr8, Dk.p_aadd, Dk.p_asub, Dd.WO, Dk.eq_ss, Dk.ne_ss, Dk.eq_ii, Dk.ne_ii, Dk.isNot_non, Dk.q_add, Dk.q_addt, Dk.q_sub, Dk.q_mod, Dk.q_fdiv, Dk.q_mulr, Dk.q_mull, Dk.q_neg, Dk.q_lt, Dk.q_le, Dk.q_gt, Dk.q_ge, Dk.q_ix0, Dk.q_ix1, Dk.q_ix2, Dk.q_is_t, Dk.q_is_s, Dk.q_is_lt, Dk.q_is_ll, Dk.q_tru, Dk.q_lent, Dk.q_lenr, Dk.q_int, Dk.q_intb, Dk.q_abs, Dk.q_tupr, Dk.q_lstt, Dk.q_lst, Dk.q_tup, Dk.q_oka, Dk.q_oke, Dk.q_okj, Dk.q_app, Dk.q_ext, Dk.q_nm, Dk.q_tp, Dk.q_sa0, Dk.q_sa1, Dk.q_isn, Dk.q_isb, Dk.q_wipe0, Dk.q_wipe1, l1, nD_len, l2, this, s1, s2, s3]
      exact ⟨⟨_, _, rfl, Int.emod_nonneg _ (by decide)⟩, num_more g l1 l2 l3 (Int.emod_nonneg _ (by decide)) (Int.emod_lt_of_pos _ (by decide))⟩
end Dk

set_option Elab.async false
set_option linter.all false
set_option maxRecDepth 100000
set_option maxHeartbeats 4000000
namespace Dk
open PySem PySem.Spec PyProof.Rows L2 Dd

/-! ### numbers of a width as one number -/
def valN (w : Nat) : List Nat → Nat
  | [] => 0
  | x :: xs => x + 2 ^ w * valN w xs
def bytesN : Nat → Nat → List Nat
  | 0, _ => []
  | k + 1, v => v % 256 :: bytesN k (v / 256)
def packB (w : Nat) (xs : List Nat) : List Nat := bytesN ((xs.length * w + 7) / 8) (valN w xs)
def digN (w : Nat) : Nat → Nat → List Nat
  | 0, _ => []
  | k + 1, v => v % 2 ^ w :: digN w k (v / 2 ^ w)
theorem bytesN_len (k v : Nat) : (bytesN k v).length = k := by
  induction k generalizing v with
  | zero => rfl
  | succ k ih => rw [bytesN, List.length_cons, ih]
theorem digN_len (w k v : Nat) : (digN w k v).length = k := by
  induction k generalizing v with
  | zero => rfl
  | succ k ih => rw [digN, List.length_cons, ih]
theorem bytesN_lt (k v : Nat) : ∀ b ∈ bytesN k v, b < 256 := by
  induction k generalizing v with
  | zero => intro b hb; cases hb
  | succ k ih =>
    intro b hb
    rcases List.mem_cons.mp hb with rfl | hb
    · omega
    · exact ih _ _ hb
theorem valN_lt {w : Nat} {xs : List Nat} (hx : ∀ x ∈ xs, x < 2 ^ w) : valN w xs < 2 ^ (w * xs.length) := by
  induction xs with
  | nil => exact Nat.one_pos
  | cons x xs ih =>
    have h1 := hx x List.mem_cons_self
    have h2 := ih fun y hy => hx y (List.mem_cons_of_mem _ hy)
    rw [valN, List.length_cons, Nat.mul_succ, Nat.pow_add, Nat.mul_comm (2 ^ (w * xs.length))]
    have h3 : 2 ^ w * (valN w xs + 1) ≤ 2 ^ w * 2 ^ (w * xs.length) := Nat.mul_le_mul_left _ h2
    rw [Nat.mul_add] at h3
    omega
theorem digN_valN {w : Nat} {xs : List Nat} (hx : ∀ x ∈ xs, x < 2 ^ w) : digN w xs.length (valN w xs) = xs := by
  induction xs with
  | nil => rfl
  | cons x xs ih =>
    have h1 := hx x List.mem_cons_self
    rw [valN, List.length_cons, digN, Nat.add_mul_mod_self_left, Nat.mod_eq_of_lt h1, Nat.add_mul_div_left _ _ (Nat.two_pow_pos _), Nat.div_eq_of_lt h1, Nat.zero_add, ih fun y hy => hx y (List.mem_cons_of_mem _ hy)]
theorem valN_bytesN (k v : Nat) : valN 8 (bytesN k v) = v % 256 ^ k := by
  induction k generalizing v with
  | zero => rw [bytesN, valN, Nat.pow_zero, Nat.mod_one]
  | succ k ih =>
    rw [bytesN, valN, ih, Nat.pow_succ 256 k, Nat.mul_comm (256 ^ k), Nat.mod_mul]
theorem valN_packB {w : Nat} {xs : List Nat} (hx : ∀ x ∈ xs, x < 2 ^ w) : valN 8 (packB w xs) = valN w xs := by
  unfold packB
  rw [valN_bytesN, Nat.mod_eq_of_lt]
  refine Nat.lt_of_lt_of_le (valN_lt hx) ?_
  rw [show 256 = 2 ^ 8 from rfl, ← Nat.pow_mul]
  refine Nat.pow_le_pow_right (by decide) ?_
  rw [Nat.mul_comm w]
  omega
/-- the low byte goes -/
theorem emit {a f v : Nat} (hf : 8 ≤ f) : (a + 2 ^ f * v) % 256 = a % 256 ∧ (a + 2 ^ f * v) / 256 = a / 256 + 2 ^ (f - 8) * v := by
  have e : 2 ^ f = 256 * 2 ^ (f - 8) := by rw [show (256 : Nat) = 2 ^ 8 from rfl, ← Nat.pow_add]; congr 1; omega
  rw [e, Nat.mul_assoc]
  omega
theorem emitW {a f v w : Nat} (hf : w ≤ f) : (a + 2 ^ f * v) % 2 ^ w = a % 2 ^ w ∧ (a + 2 ^ f * v) / 2 ^ w = a / 2 ^ w + 2 ^ (f - w) * v := by
  have e : 2 ^ f = 2 ^ w * 2 ^ (f - w) := by rw [← Nat.pow_add]; congr 1; omega
  rw [e, Nat.mul_assoc, Nat.add_mul_mod_self_left, Nat.add_mul_div_left _ _ (Nat.two_pow_pos _)]
  exact ⟨rfl, rfl⟩
theorem p_mask' {a w : Nat} {m : Int} (hm : m = 2 ^ w - 1) (h : DH) : andD (.int (a : Int)) (.int m) h = some (.int ((a % 2 ^ w : Nat) : Int), h) := by
  rw [hm, p_mask]; norm_cast
theorem p_ashr' {a w v : Nat} (hv : v = a / 2 ^ w) (h : DH) : augShr (.int (a : Int)) (.int (w : Int)) h = some (.int (v : Int), h) := by
  rw [p_ashr, hv]; norm_cast
theorem p_aor' {a b k v u : Nat} (ha : a < 2 ^ k) (hv : v = b * 2 ^ k) (hu : u = a + v) (h : DH) : augOr (.int (a : Int)) (.int (v : Int)) h = some (.int (u : Int), h) := by rw [hu, hv]; exact p_aor ha h
theorem div_lt_pow {a f w : Nat} (hw : w ≤ f) (h : a < 2 ^ f) : a / 2 ^ w < 2 ^ (f - w) := by
  rw [show f = w + (f - w) from by omega, Nat.pow_add] at h
  exact Nat.div_lt_of_lt_mul h
end Dk

set_option Elab.async false
set_option linter.all false
set_option maxRecDepth 100000
set_option maxHeartbeats 4000000
namespace Dk
open PySem PySem.Spec PyProof.Rows L2 Dd

/-- what is still to come of packed numbers -/
def I7 (h : DH) (i w : Nat) (xs : List Nat) (k j : Nat) (lo : Nat) (e : DE) (hh : DH) : Prop := ∃ (held filled : Nat) (acc : List Nat) (x : Option D), e = [some (.ref i), some (.int (w : Int)), some (.ref h.length), some (.int (held : Int)), some (.int (filled : Int)), x] ∧ Grow h hh ∧ lstAt hh h.length = some (nD acc) ∧
  held < 2 ^ filled ∧ filled < lo ∧ 8 * acc.length + filled = w * k ∧ acc ++ bytesN ((filled + w * (xs.length - k) + 7) / 8) (held + 2 ^ filled * valN w (xs.drop k)) = packB w xs ∧ filled ≤ j
theorem w7 (c i w : Nat) (xs : List Nat) (h : DH) (l : lstAt h i = some (nD xs)) (hx : ∀ x ∈ xs, x < 2 ^ w) (hw : w ≤ 64) (hz : w * xs.length ≤ 64000000) : WC (pg.run (c + 1)) 7 [.ref i, .int (w : Int)] h (fun d h' => d = .ref h.length ∧ Grow h h' ∧ lstAt h' h.length = some (nD (packB w xs))) fun _ _ _ => False := by
  refine wc_of (f := f7) rfl e7 rfl ?_
  have zz : Z = 16777216 := rfl
  have hi : i < h.length := (List.getElem?_eq_some_iff.mp (lstAt_some l)).1
  unfold b7
  simp [startD, f7, Dd.we_ret, Dd.we_bnd, Dd.we_lift, Dd.we_var, Dd.we_args_nil, Dd.we_args_cons, Dd.we_opN, Dd.we_op1, Dd.we_op2, Dd.we_call, Dd.we_tst, Dd.we_tru, Dd.we_notT, Dd.we_andT, Dd.we_orT, Dd.we_notV, Dd.we_andV, Dd.we_orV, Dd.we_ite, Dd.we_chn, Dd.we_mth, Dd.we_slice, Dd.we_intOf, Dd.nx_next, Dd.nx_ret, Dd.nx_ex, Dd.td_next, Dd.td_cont, Dd.td_brk, Dd.td_ret, Dd.td_ex, Dd.nx_brk, Dd.nx_cont, Dd.wp_skip, Dd.wp_seq, Dd.wp_drop, Dd.wp_ret, Dd.wp_asg, Dd.wp_if, Dd.wp_raise, Dd.wp_set, Dk.wp_aug, Dk.wp_brk, Dk.p_and127, Dk.p_and255, Dk.p_and1, Dk.p_shr8, Dk.p_shr16, Dk.p_shr24, Dk.p_ashr7, Dk.p_ashr8, Dk.p_aadd, Dk.p_asub, Dd.WO, Dk.eq_ss, Dk.ne_ss, Dk.eq_ii, Dk.ne_ii, Dk.isNot_non, Dk.q_add, Dk.q_addt, Dk.q_sub, Dk.q_mod, Dk.q_fdiv, Dk.q_mulr, Dk.q_mull, Dk.q_neg, Dk.q_lt, Dk.q_le, Dk.q_gt, Dk.q_ge, Dk.q_ix0, Dk.q_ix1, Dk.q_ix2, Dk.q_is_t, Dk.q_is_s, Dk.q_is_lt, Dk.q_is_ll, Dk.q_tru, Dk.q_lent, Dk.q_lenr, Dk.q_int, Dk.q_intb, Dk.q_abs, Dk.q_tupr, Dk.q_lstt, Dk.q_lst, Dk.q_tup, Dk.q_oka, Dk.q_oke, Dk.q_okj, Dk.q_app, Dk.q_ext, Dk.q_nm, Dk.q_tp, Dk.q_sa0, Dk.q_sa1, Dk.q_isn, Dk.q_isb, Dk.q_wipe0, Dk.q_wipe1]
  refine for_list (fun i' ys k e hh => i' = i ∧ ys = nD xs ∧ k ≤ xs.length ∧ I7 h i w xs k 8 8 e hh) ?_
  simp only [we_var]
  refine ⟨.ref i, rfl, i, nD xs, rfl, (Grow.one h _).lst l, ⟨rfl, rfl, Nat.zero_le _, 0, 0, [], _, rfl, Grow.one h _, lst_new, by decide, by decide, rfl, ?_, by decide⟩, ?_, ?_, ?_⟩
  · show bytesN ((0 + w * (xs.length - 0) + 7) / 8) (0 + 2 ^ 0 * valN w xs) = packB w xs
    unfold packB
    rw [Nat.mul_comm w]; simp
  · rintro k e hh ⟨-, -, hk, held, filled, acc, x, rfl, g, q⟩
    exact g.lst l
  · rintro e hh ⟨-, -, -, held, filled, acc, x, rfl, g, l1, q1, q2, q3, q4, -⟩
    rw [nD_len] at q3 q4
    have d0 : xs.drop xs.length = [] := List.drop_length
    rw [d0] at q4
    have e0 : filled + w * (xs.length - xs.length) + 7 = filled + 7 := by rw [Nat.sub_self]; rfl
    rw [e0, valN, Nat.mul_zero, Nat.add_zero] at q4
    by_cases c0 : filled = 0
    · subst c0
      simp [Dd.we_ret, Dd.we_bnd, Dd.we_lift, Dd.we_var, Dd.we_args_nil, Dd.we_args_cons, Dd.we_opN, Dd.we_op1, Dd.we_op2, Dd.we_call, Dd.we_tst, Dd.we_tru, Dd.we_notT, Dd.we_andT, Dd.we_orT, Dd.we_notV, Dd.we_andV, Dd.we_orV, Dd.we_ite, Dd.we_chn, Dd.we_mth, Dd.we_slice, Dd.we_intOf, Dd.nx_next, Dd.nx_ret, Dd.nx_ex, Dd.td_next, Dd.td_cont, Dd.td_brk, Dd.td_ret, Dd.td_ex, Dd.nx_brk, Dd.nx_cont, Dd.wp_skip, Dd.wp_seq, Dd.wp_drop, Dd.wp_ret, Dd.wp_asg, Dd.wp_if, Dd.wp_raise, Dd.wp_set, Dk.wp_aug, Dk.wp_brk, Dk.p_and127, Dk.p_and255, Dk.p_and1, Dk.p_shr8, Dk.p_shr16, Dk.p_shr24, Dk.p_ashr7, Dk.p_ashr8, Dk.p_aadd, Dk.p_asub, Dd.WO, Dk.eq_ss, Dk.ne_ss, Dk.eq_ii, Dk.ne_ii, Dk.isNot_non, Dk.q_add, Dk.q_addt, Dk.q_sub, Dk.q_mod, Dk.q_fdiv, Dk.q_mulr, Dk.q_mull, Dk.q_neg, Dk.q_lt, Dk.q_le, Dk.q_gt, Dk.q_ge, Dk.q_ix0, Dk.q_ix1, Dk.q_ix2, Dk.q_is_t, Dk.q_is_s, Dk.q_is_lt, Dk.q_is_ll, Dk.q_tru, Dk.q_lent, Dk.q_lenr, Dk.q_int, Dk.q_intb, Dk.q_abs, Dk.q_tupr, Dk.q_lstt, Dk.q_lst, Dk.q_tup, Dk.q_oka, Dk.q_oke, Dk.q_okj, Dk.q_app, Dk.q_ext, Dk.q_nm, Dk.q_tp, Dk.q_sa0, Dk.q_sa1, Dk.q_isn, Dk.q_isb, Dk.q_wipe0, Dk.q_wipe1, end_ret]
      refine ⟨g, ?_⟩
      rw [l1, ← q4]; simp [bytesN]
    · have c1 : (0 : Int) < (filled : Int) := by omega
      have c2 : 0 < filled := by omega
      have az : acc.length < Z := by omega
      simp [Dd.we_ret, Dd.we_bnd, Dd.we_lift, Dd.we_var, Dd.we_args_nil, Dd.we_args_cons, Dd.we_opN, Dd.we_op1, Dd.we_op2, Dd.we_call, Dd.we_tst, Dd.we_tru, Dd.we_notT, Dd.we_andT, Dd.we_orT, Dd.we_notV, Dd.we_andV, Dd.we_orV, Dd.we_ite, Dd.we_chn, Dd.we_mth, Dd.we_slice, Dd.we_intOf, Dd.nx_next, Dd.nx_ret, Dd.nx_ex, Dd.td_next, Dd.td_cont, Dd.td_brk, Dd.td_ret, Dd.td_ex, Dd.nx_brk, Dd.nx_cont, Dd.wp_skip, Dd.wp_seq, Dd.wp_drop, Dd.wp_ret, Dd.wp_asg, Dd.wp_if, Dd.wp_raise, Dd.wp_set, Dk.wp_aug, Dk.wp_brk, Dk.p_and127, Dk.p_and255, Dk.p_and1, Dk.p_shr8, Dk.p_shr16, Dk.p_shr24, Dk.p_ashr7, Dk.p_ashr8, Dk.p_aadd, Dk.p_asub, Dd.WO, Dk.eq_ss, Dk.ne_ss, Dk.eq_ii, Dk.ne_ii, Dk.isNot_non, Dk.q_add, Dk.q_addt, Dk.q_sub, Dk.q_mod, Dk.q_fdiv, Dk.q_mulr, Dk.q_mull, Dk.q_neg, Dk.q_lt, Dk.q_le, Dk.q_gt, Dk.q_ge, Dk.q_ix0, Dk.q_ix1, Dk.q_ix2, Dk.q_is_t, Dk.q_is_s, Dk.q_is_lt, Dk.q_is_ll, Dk.q_tru, Dk.q_lent, Dk.q_lenr, Dk.q_int, Dk.q_intb, Dk.q_abs, Dk.q_tupr, Dk.q_lstt, Dk.q_lst, Dk.q_tup, Dk.q_oka, Dk.q_oke, Dk.q_okj, Dk.q_app, Dk.q_ext, Dk.q_nm, Dk.q_tp, Dk.q_sa0, Dk.q_sa1, Dk.q_isn, Dk.q_isb, Dk.q_wipe0, Dk.q_wipe1, end_ret, c1, c2, l1, nD_len, az]
      refine ⟨g.set _ (Nat.le_refl _), ?_⟩
      rw [lst_set l1, ← q4, show (filled + 7) / 8 = 1 from by omega, nD_app]; rfl
  · rintro k d e hh hk ⟨-, -, -, held, filled, acc, x, rfl, g, l1, q1, q2, q3, q4, -⟩
    have hkl : k < xs.length := by
      have := (List.getElem?_eq_some_iff.mp hk).1
      rwa [nD_len] at this
    rw [nD_get hkl] at hk
    obtain ⟨y, hy⟩ : ∃ y, y = xs[k] := ⟨_, rfl⟩
    have hy2 : y < 2 ^ w := by rw [hy]; exact hx _ (List.getElem_mem _)
    have dr : xs.drop k = y :: xs.drop (k + 1) := by rw [hy]; exact List.drop_eq_getElem_cons hkl
    rw [← hy] at hk
    cases hk
    refine ⟨_, rfl, ?_⟩
    obtain ⟨v, hv⟩ : ∃ v, v = y * 2 ^ filled := ⟨_, rfl⟩
    obtain ⟨u, hu⟩ : ∃ u, u = held + v := ⟨_, rfl⟩
    have y64 : y < 2 ^ 64 := Nat.lt_of_lt_of_le hy2 (Nat.pow_le_pow_right (by decide) hw)
    have s1 : ∀ h, shlD (.int (y : Int)) (.int (filled : Int)) h = some (.int (v : Int), h) := fun h => p_shl' y64 (by omega) hv h
    have s2 : ∀ h, augOr (.int (held : Int)) (.int (v : Int)) h = some (.int (u : Int), h) := fun h => p_aor' q1 hv hu h
    simp [Dd.we_ret, Dd.we_bnd, Dd.we_lift, Dd.we_var, Dd.we_args_nil, Dd.we_args_cons, Dd.we_opN, Dd.we_op1, Dd.we_op2, Dd.we_call, Dd.we_tst, Dd.we_tru, Dd.we_notT, Dd.we_andT, Dd.we_orT, Dd.we_notV, Dd.we_andV, Dd.we_orV, Dd.we_ite, Dd.we_chn, Dd.we_mth, Dd.we_slice, Dd.we_intOf, Dd.nx_next, Dd.nx_ret, Dd.nx_ex, Dd.td_next, Dd.td_cont, Dd.td_brk, Dd.td_ret, Dd.td_ex, Dd.nx_brk, Dd.nx_cont, Dd.wp_skip, Dd.wp_seq, Dd.wp_drop, Dd.wp_ret, Dd.wp_asg, Dd.wp_if, Dd.wp_raise, Dd.wp_set, Dk.wp_aug, Dk.wp_brk, Dk.p_and127, Dk.p_and255, Dk.p_and1, Dk.p_shr8, Dk.p_shr16, Dk.p_shr24, Dk.p_ashr7, Dk.p_ashr8, Dk.p_aadd, Dk.p_asub, Dd.WO, Dk.eq_ss, Dk.ne_ss, Dk.eq_ii, Dk.ne_ii, Dk.isNot_non, Dk.q_add, Dk.q_addt, Dk.q_sub, Dk.q_mod, Dk.q_fdiv, Dk.q_mulr, Dk.q_mull, Dk.q_neg, Dk.q_lt, Dk.q_le, Dk.q_gt, Dk.q_ge, Dk.q_ix0, Dk.q_ix1, Dk.q_ix2, Dk.q_is_t, Dk.q_is_s, Dk.q_is_lt, Dk.q_is_ll, Dk.q_tru, Dk.q_lent, Dk.q_lenr, Dk.q_int, Dk.q_intb, Dk.q_abs, Dk.q_tupr, Dk.q_lstt, Dk.q_lst, Dk.q_tup, Dk.q_oka, Dk.q_oke, Dk.q_okj, Dk.q_app, Dk.q_ext, Dk.q_nm, Dk.q_tp, Dk.q_sa0, Dk.q_sa1, Dk.q_isn, Dk.q_isb, Dk.q_wipe0, Dk.q_wipe1, s1, s2]
    have hu2 : u < 2 ^ (filled + w) := by
      rw [hu, hv, Nat.pow_add]
      have : 2 ^ filled * (y + 1) ≤ 2 ^ filled * 2 ^ w := Nat.mul_le_mul_left _ hy2
      rw [Nat.mul_add] at this
      rw [Nat.mul_comm y]; omega
    refine wp_while (N := filled + w) (fun n e hh => I7 h i w xs (k + 1) n 1000 e hh) (by omega) ⟨u, filled + w, acc, _, rfl, g, l1, hu2, by omega, by rw [Nat.mul_succ, ← q3]; omega, ?_, Nat.le_refl _⟩ ?_
    · rw [← q4, dr, valN, hu, hv, show filled + w * (xs.length - k) + 7 = filled + w + w * (xs.length - (k + 1)) + 7 from by rw [show xs.length - k = (xs.length - (k + 1)) + 1 from by omega, Nat.mul_succ]; omega]
      rw [Nat.pow_add, Nat.mul_add, Nat.mul_comm y, Nat.mul_assoc]
      simp only [Nat.add_assoc]
    · rintro n e hh ⟨held, filled, acc, x, rfl, g, l1, q1, q2, q3, q4, hn⟩
      have zl : 8 * acc.length + filled ≤ w * xs.length := by rw [q3]; exact Nat.mul_le_mul_left _ hkl
      have az : acc.length < Z := by omega
      by_cases c0 : 8 ≤ filled
      · have c1 : (8 : Int) ≤ (filled : Int) := by omega
        simp [Dd.we_ret, Dd.we_bnd, Dd.we_lift, Dd.we_var, Dd.we_args_nil, Dd.we_args_cons, Dd.we_opN, Dd.we_op1, Dd.we_op2, Dd.we_call, Dd.we_tst, Dd.we_tru, Dd.we_notT, Dd.we_andT, Dd.we_orT, Dd.we_notV, Dd.we_andV, Dd.we_orV, Dd.we_ite, Dd.we_chn, Dd.we_mth, Dd.we_slice, Dd.we_intOf, Dd.nx_next, Dd.nx_ret, Dd.nx_ex, Dd.td_next, Dd.td_cont, Dd.td_brk, Dd.td_ret, Dd.td_ex, Dd.nx_brk, Dd.nx_cont, Dd.wp_skip, Dd.wp_seq, Dd.wp_drop, Dd.wp_ret, Dd.wp_asg, Dd.wp_if, Dd.wp_raise, Dd.wp_set, Dk.wp_aug, Dk.wp_brk, Dk.p_and127, Dk.p_and255, Dk.p_and1, Dk.p_shr8, Dk.p_shr16, Dk.p_shr24, Dk.p_ashr7, Dk.p_ashr8, Dk.p_aadd, Dk.p_asub, Dd.WO, Dk.eq_ss, Dk.ne_ss, Dk.eq_ii, Dk.ne_ii, Dk.isNot_non, Dk.q_add, Dk.q_addt, Dk.q_sub, Dk.q_mod, Dk.q_fdiv, Dk.q_mulr, Dk.q_mull, Dk.q_neg, Dk.q_lt, Dk.q_le, Dk.q_gt, Dk.q_ge, Dk.q_ix0, Dk.q_ix1, Dk.q_ix2, Dk.q_is_t, Dk.q_is_s, Dk.q_is_lt, Dk.q_is_ll, Dk.q_tru, Dk.q_lent, Dk.q_lenr, Dk.q_int, Dk.q_intb, Dk.q_abs, Dk.q_tupr, Dk.q_lstt, Dk.q_lst, Dk.q_tup, Dk.q_oka, Dk.q_oke, Dk.q_okj, Dk.q_app, Dk.q_ext, Dk.q_nm, Dk.q_tp, Dk.q_sa0, Dk.q_sa1, Dk.q_isn, Dk.q_isb, Dk.q_wipe0, Dk.q_wipe1, c1, c0, l1, nD_len, az]
        obtain ⟨n', rfl⟩ : ∃ n', n = n' + 1 := ⟨n - 1, by omega⟩
        refine ⟨n', rfl, held / 256, filled - 8, acc ++ [held % 256], _, by rw [show ((filled - 8 : Nat) : Int) = (filled : Int) - 8 from by omega]; rfl, g.set _ (Nat.le_refl _), by rw [lst_set l1, nD_app]; rfl, div_lt_pow (w := 8) c0 q1, by omega, by rw [List.length_append]; show 8 * (acc.length + 1) + (filled - 8) = _; omega, ?_, by omega⟩
        rw [← q4]
        obtain ⟨t, ht⟩ : ∃ t, (filled + w * (xs.length - (k + 1)) + 7) / 8 = t + 1 := ⟨(filled + w * (xs.length - (k + 1)) + 7) / 8 - 1, by omega⟩
        rw [ht, bytesN, (emit c0).1, (emit c0).2, show (filled - 8 + w * (xs.length - (k + 1)) + 7) / 8 = t from by omega, List.append_assoc]
        rfl
      · have c1 : ¬ (8 : Int) ≤ (filled : Int) := by omega
        simp [Dd.we_ret, Dd.we_bnd, Dd.we_lift, Dd.we_var, Dd.we_args_nil, Dd.we_args_cons, Dd.we_opN, Dd.we_op1, Dd.we_op2, Dd.we_call, Dd.we_tst, Dd.we_tru, Dd.we_notT, Dd.we_andT, Dd.we_orT, Dd.we_notV, Dd.we_andV, Dd.we_orV, Dd.we_ite, Dd.we_chn, Dd.we_mth, Dd.we_slice, Dd.we_intOf, Dd.nx_next, Dd.nx_ret, Dd.nx_ex, Dd.td_next, Dd.td_cont, Dd.td_brk, Dd.td_ret, Dd.td_ex, Dd.nx_brk, Dd.nx_cont, Dd.wp_skip, Dd.wp_seq, Dd.wp_drop, Dd.wp_ret, Dd.wp_asg, Dd.wp_if, Dd.wp_raise, Dd.wp_set, Dk.wp_aug, Dk.wp_brk, Dk.p_and127, Dk.p_and255, Dk.p_and1, Dk.p_shr8, Dk.p_shr16, Dk.p_shr24, Dk.p_ashr7, Dk.p_ashr8, Dk.p_aadd, Dk.p_asub, Dd.WO, Dk.eq_ss, Dk.ne_ss, Dk.eq_ii, Dk.ne_ii, Dk.isNot_non, Dk.q_add, Dk.q_addt, Dk.q_sub, Dk.q_mod, Dk.q_fdiv, Dk.q_mulr, Dk.q_mull, Dk.q_neg, Dk.q_lt, Dk.q_le, Dk.q_gt, Dk.q_ge, Dk.q_ix0, Dk.q_ix1, Dk.q_ix2, Dk.q_is_t, Dk.q_is_s, Dk.q_is_lt, Dk.q_is_ll, Dk.q_tru, Dk.q_lent, Dk.q_lenr, Dk.q_int, Dk.q_intb, Dk.q_abs, Dk.q_tupr, Dk.q_lstt, Dk.q_lst, Dk.q_tup, Dk.q_oka, Dk.q_oke, Dk.q_okj, Dk.q_app, Dk.q_ext, Dk.q_nm, Dk.q_tp, Dk.q_sa0, Dk.q_sa1, Dk.q_isn, Dk.q_isb, Dk.q_wipe0, Dk.q_wipe1, c1, c0]
        exact ⟨hkl, held, filled, acc, _, rfl, g, l1, q1, by omega, q3, q4, by omega⟩
end Dk

set_option Elab.async false
set_option linter.all false
set_option maxRecDepth 100000
set_option maxHeartbeats 4000000
namespace Dk
open PySem PySem.Spec PyProof.Rows L2 Dd

theorem for_rngS {a : M D} {t : Tg} {b : MS} {e : DE} {h : DH} {Q : Fl → DE → DH → Prop} (n : Nat) (Inv : Nat → DE → DH → Prop)
    (w : WE a e h (fun d h1 => d = .int (n : Int) ∧ h1 = h) fun _ _ _ => False) (hz : n ≤ Z) (i0 : Inv 0 e h) (hd : ∀ e h, Inv n e h → Q .next e h)
    (step : ∀ k e h, k < n → Inv k e h → ∃ e1, t.put (.int (k : Int)) h e = some e1 ∧ WP b e1 h (Turned Q (Inv (k + 1)))) : WP (forS (bnd a fun x => lift (rng1 x)) t b) e h Q := by
  refine for_rng Inv (w.mono (fun d h1 x => ?_) fun _ _ _ x => x.elim)
  obtain ⟨rfl, rfl⟩ := x
  exact ⟨n, rfl, in62_nat hz, i0, hd, step⟩
def bitL : Nat → Nat → List Nat
  | 0, _ => []
  | n + 1, v => v % 2 :: bitL n (v / 2)
theorem bitL_len (n v : Nat) : (bitL n v).length = n := by
  induction n generalizing v with
  | zero => rfl
  | succ n ih => rw [bitL, List.length_cons, ih]
theorem bitL_get (n v j : Nat) (hj : j < n) : (bitL n v)[j]? = some (v / 2 ^ j % 2) := by
  induction n generalizing v j with
  | zero => omega
  | succ n ih =>
    cases j with
    | zero => simp [bitL]
    | succ j =>
      rw [bitL, List.getElem?_cons_succ, ih _ _ (by omega), Nat.div_div_eq_div_mul, Nat.pow_succ, Nat.mul_comm 2]
theorem bit_step (y j : Nat) : y % 2 ^ (j + 1) = 2 * (y / 2 % 2 ^ j) + y % 2 := by
  rw [Nat.pow_succ, Nat.mul_comm (2 ^ j), Nat.mod_mul, Nat.add_comm]
/-- bits: outer, inner -/
def I18 (h : DH) (i w : Nat) (xs : List Nat) (k : Nat) (e : DE) (hh : DH) : Prop := ∃ (acc : List Nat) (x y z u v : Option D), e = [some (.ref i), some (.int (w : Int)), some (.ref h.length), x, y, z, u, v] ∧ Grow h hh ∧ lstAt hh h.length = some (nD acc) ∧ acc.length = w * k ∧ acc ++ bitL (w * (xs.length - k)) (valN w (xs.drop k)) = bitL (w * xs.length) (valN w xs)
def J18 (h : DH) (i w : Nat) (xs : List Nat) (k j : Nat) (e : DE) (hh : DH) : Prop := ∃ (acc : List Nat) (m : Nat) (y z u v : Option D), e = [some (.ref i), some (.int (w : Int)), some (.ref h.length), some (.int (m : Int)), y, z, u, v] ∧ Grow h hh ∧ lstAt hh h.length = some (nD acc) ∧ acc.length = w * k + j ∧ m < 2 ^ (w - j) ∧ acc ++ bitL (w - j + w * (xs.length - (k + 1))) (m + 2 ^ (w - j) * valN w (xs.drop (k + 1))) = bitL (w * xs.length) (valN w xs)
/-- bytes: outer, inner -/
def K18 (h : DH) (i w : Nat) (V n : Nat) (k : Nat) (e : DE) (hh : DH) : Prop := ∃ (acc : List Nat) (f : Nat) (x y z u : Option D), e = [some (.ref i), some (.int (w : Int)), some (.ref h.length), x, y, some (.ref f), z, u] ∧ h.length < f ∧ Grow h hh ∧ lstAt hh h.length = some (nD (bitL n V)) ∧ lstAt hh f = some (nD acc) ∧ acc.length = k ∧ acc ++ bytesN ((n + 7) / 8 - k) (V / 256 ^ k) = bytesN ((n + 7) / 8) V
def L18 (h hs : DH) (i w : Nat) (V n : Nat) (f k : Nat) (j : Nat) (e : DE) (hh : DH) : Prop := ∃ (t : Nat) (x u : Option D), e = [some (.ref i), some (.int (w : Int)), some (.ref h.length), x, some (.int (k : Int)), some (.ref f), some (.int (t : Int)), u] ∧ hh = hs ∧ t = V / 2 ^ (8 * k + 8 - j) % 2 ^ j
theorem w18 (c i w : Nat) (xs : List Nat) (h : DH) (l : lstAt h i = some (nD xs)) (hx : ∀ x ∈ xs, x < 2 ^ w) (hw : w ≤ 64) (hz : w * xs.length ≤ 16000000) : WC (pg.run (c + 1)) 18 [.ref i, .int (w : Int)] h (fun d h' => ∃ f, d = .ref f ∧ h.length ≤ f ∧ Grow h h' ∧ lstAt h' f = some (nD (packB w xs))) fun _ _ _ => False := by
  refine wc_of (f := f18) rfl e18 rfl ?_
  have zz : Z = 16777216 := rfl
  have hi : i < h.length := (List.getElem?_eq_some_iff.mp (lstAt_some l)).1
  have vlt := valN_lt hx
  obtain ⟨V, hV⟩ : ∃ V, V = valN w xs := ⟨_, rfl⟩
  obtain ⟨n, hn⟩ : ∃ n, n = w * xs.length := ⟨_, rfl⟩
  unfold b18
  simp [startD, f18, Dd.we_ret, Dd.we_bnd, Dd.we_lift, Dd.we_var, Dd.we_args_nil, Dd.we_args_cons, Dd.we_opN, Dd.we_op1, Dd.we_op2, Dd.we_call, Dd.we_tst, Dd.we_tru, Dd.we_notT, Dd.we_andT, Dd.we_orT, Dd.we_notV, Dd.we_andV, Dd.we_orV, Dd.we_ite, Dd.we_chn, Dd.we_mth, Dd.we_slice, Dd.we_intOf, Dd.nx_next, Dd.nx_ret, Dd.nx_ex, Dd.td_next, Dd.td_cont, Dd.td_brk, Dd.td_ret, Dd.td_ex, Dd.nx_brk, Dd.nx_cont, Dd.wp_skip, Dd.wp_seq, Dd.wp_drop, Dd.wp_ret, Dd.wp_asg, Dd.wp_if, Dd.wp_raise, Dd.wp_set, Dk.wp_aug, Dk.wp_brk, Dk.p_and127, Dk.p_and255, Dk.p_and1, Dk.p_shr8, Dk.p_shr16, Dk.p_shr24, Dk.p_ashr7, Dk.p_ashr8, Dk.p_aadd, Dk.p_asub, Dd.WO, Dk.eq_ss, Dk.ne_ss, Dk.eq_ii, Dk.ne_ii, Dk.isNot_non, Dk.q_add, Dk.q_addt, Dk.q_sub, Dk.q_mod, Dk.q_fdiv, Dk.q_mulr, Dk.q_mull, Dk.q_neg, Dk.q_lt, Dk.q_le, Dk.q_gt, Dk.q_ge, Dk.q_ix0, Dk.q_ix1, Dk.q_ix2, Dk.q_is_t, Dk.q_is_s, Dk.q_is_lt, Dk.q_is_ll, Dk.q_tru, Dk.q_lent, Dk.q_lenr, Dk.q_int, Dk.q_intb, Dk.q_abs, Dk.q_tupr, Dk.q_lstt, Dk.q_lst, Dk.q_tup, Dk.q_oka, Dk.q_oke, Dk.q_okj, Dk.q_app, Dk.q_ext, Dk.q_nm, Dk.q_tp, Dk.q_sa0, Dk.q_sa1, Dk.q_isn, Dk.q_isb, Dk.q_wipe0, Dk.q_wipe1]
  refine for_list (fun i' ys k e hh => i' = i ∧ ys = nD xs ∧ k ≤ xs.length ∧ I18 h i w xs k e hh) ?_
  simp only [we_var]
  refine ⟨.ref i, rfl, i, nD xs, rfl, (Grow.one h _).lst l, ⟨rfl, rfl, Nat.zero_le _, [], _, _, _, _, _, rfl, Grow.one h _, lst_new, rfl, rfl⟩, ?_, ?_, ?_⟩
  · rintro k e hh ⟨-, -, hk, acc, x, y, z, u, v, rfl, g, q⟩
    exact g.lst l
  · rintro e hh ⟨-, -, -, acc, x, y, z, u, v, rfl, g, l1, q1, q2⟩
    rw [nD_len] at q1 q2
    rw [Nat.sub_self, Nat.mul_zero, bitL, List.append_nil] at q2
    rw [← hV, ← hn] at q2
    rw [← hn] at q1
    subst q2
    have pb : packB w xs = bytesN ((n + 7) / 8) V := by unfold packB; rw [hV, hn, Nat.mul_comm w]
    rw [pb]
    simp [Dd.we_ret, Dd.we_bnd, Dd.we_lift, Dd.we_var, Dd.we_args_nil, Dd.we_args_cons, Dd.we_opN, Dd.we_op1, Dd.we_op2, Dd.we_call, Dd.we_tst, Dd.we_tru, Dd.we_notT, Dd.we_andT, Dd.we_orT, Dd.we_notV, Dd.we_andV, Dd.we_orV, Dd.we_ite, Dd.we_chn, Dd.we_mth, Dd.we_slice, Dd.we_intOf, Dd.nx_next, Dd.nx_ret, Dd.nx_ex, Dd.td_next, Dd.td_cont, Dd.td_brk, Dd.td_ret, Dd.td_ex, Dd.nx_brk, Dd.nx_cont, Dd.wp_skip, Dd.wp_seq, Dd.wp_drop, Dd.wp_ret, Dd.wp_asg, Dd.wp_if, Dd.wp_raise, Dd.wp_set, Dk.wp_aug, Dk.wp_brk, Dk.p_and127, Dk.p_and255, Dk.p_and1, Dk.p_shr8, Dk.p_shr16, Dk.p_shr24, Dk.p_ashr7, Dk.p_ashr8, Dk.p_aadd, Dk.p_asub, Dd.WO, Dk.eq_ss, Dk.ne_ss, Dk.eq_ii, Dk.ne_ii, Dk.isNot_non, Dk.q_add, Dk.q_addt, Dk.q_sub, Dk.q_mod, Dk.q_fdiv, Dk.q_mulr, Dk.q_mull, Dk.q_neg, Dk.q_lt, Dk.q_le, Dk.q_gt, Dk.q_ge, Dk.q_ix0, Dk.q_ix1, Dk.q_ix2, Dk.q_is_t, Dk.q_is_s, Dk.q_is_lt, Dk.q_is_ll, Dk.q_tru, Dk.q_lent, Dk.q_lenr, Dk.q_int, Dk.q_intb, Dk.q_abs, Dk.q_tupr, Dk.q_lstt, Dk.q_lst, Dk.q_tup, Dk.q_oka, Dk.q_oke, Dk.q_okj, Dk.q_app, Dk.q_ext, Dk.q_nm, Dk.q_tp, Dk.q_sa0, Dk.q_sa1, Dk.q_isn, Dk.q_isb, Dk.q_wipe0, Dk.q_wipe1]
    have hg : h.length < List.length hh := by have := g.le; have := (List.getElem?_eq_some_iff.mp (lstAt_some l1)).1; omega
    have g2 := g.trans (Grow.one hh (Ob.lst []))
    have l2 := (Grow.one hh (Ob.lst [])).lst l1
    have fd : ∀ h, fdivD (.int ((n : Int) + 7)) (.int 8) h = some (.int (((n + 7) / 8 : Nat) : Int), h) := fun h => by
      rw [q_fdiv _ _ _ (by decide) (by decide)]; norm_cast
    refine for_rngS ((n + 7) / 8) (K18 h i w V n) ?_ (by omega) ⟨[], List.length hh, _, _, _, _, rfl, hg, g2, l2, lst_new, rfl, by simp⟩ ?_ ?_
    · simp [Dd.we_ret, Dd.we_bnd, Dd.we_lift, Dd.we_var, Dd.we_args_nil, Dd.we_args_cons, Dd.we_opN, Dd.we_op1, Dd.we_op2, Dd.we_call, Dd.we_tst, Dd.we_tru, Dd.we_notT, Dd.we_andT, Dd.we_orT, Dd.we_notV, Dd.we_andV, Dd.we_orV, Dd.we_ite, Dd.we_chn, Dd.we_mth, Dd.we_slice, Dd.we_intOf, Dd.nx_next, Dd.nx_ret, Dd.nx_ex, Dd.td_next, Dd.td_cont, Dd.td_brk, Dd.td_ret, Dd.td_ex, Dd.nx_brk, Dd.nx_cont, Dd.wp_skip, Dd.wp_seq, Dd.wp_drop, Dd.wp_ret, Dd.wp_asg, Dd.wp_if, Dd.wp_raise, Dd.wp_set, Dk.wp_aug, Dk.wp_brk, Dk.p_and127, Dk.p_and255, Dk.p_and1, Dk.p_shr8, Dk.p_shr16, Dk.p_shr24, Dk.p_ashr7, Dk.p_ashr8, Dk.p_aadd, Dk.p_asub, Dd.WO, Dk.eq_ss, Dk.ne_ss, Dk.eq_ii, Dk.ne_ii, Dk.isNot_non, Dk.q_add, Dk.q_addt, Dk.q_sub, Dk.q_mod, Dk.q_fdiv, Dk.q_mulr, Dk.q_mull, Dk.q_neg, Dk.q_lt, Dk.q_le, Dk.q_gt, Dk.q_ge, Dk.q_ix0, Dk.q_ix1, Dk.q_ix2, Dk.q_is_t, Dk.q_is_s, Dk.q_is_lt, Dk.q_is_ll, Dk.q_tru, Dk.q_lent, Dk.q_lenr, Dk.q_int, Dk.q_intb, Dk.q_abs, Dk.q_tupr, Dk.q_lstt, Dk.q_lst, Dk.q_tup, Dk.q_oka, Dk.q_oke, Dk.q_okj, Dk.q_app, Dk.q_ext, Dk.q_nm, Dk.q_tp, Dk.q_sa0, Dk.q_sa1, Dk.q_isn, Dk.q_isb, Dk.q_wipe0, Dk.q_wipe1, lstAt_some l2, nD_len, bitL_len, fd]
    · rintro e hh ⟨acc, f, x, y, z, u, rfl, hf, g, l1, l2, q1, q2⟩
      simp [Dd.we_ret, Dd.we_bnd, Dd.we_lift, Dd.we_var, Dd.we_args_nil, Dd.we_args_cons, Dd.we_opN, Dd.we_op1, Dd.we_op2, Dd.we_call, Dd.we_tst, Dd.we_tru, Dd.we_notT, Dd.we_andT, Dd.we_orT, Dd.we_notV, Dd.we_andV, Dd.we_orV, Dd.we_ite, Dd.we_chn, Dd.we_mth, Dd.we_slice, Dd.we_intOf, Dd.nx_next, Dd.nx_ret, Dd.nx_ex, Dd.td_next, Dd.td_cont, Dd.td_brk, Dd.td_ret, Dd.td_ex, Dd.nx_brk, Dd.nx_cont, Dd.wp_skip, Dd.wp_seq, Dd.wp_drop, Dd.wp_ret, Dd.wp_asg, Dd.wp_if, Dd.wp_raise, Dd.wp_set, Dk.wp_aug, Dk.wp_brk, Dk.p_and127, Dk.p_and255, Dk.p_and1, Dk.p_shr8, Dk.p_shr16, Dk.p_shr24, Dk.p_ashr7, Dk.p_ashr8, Dk.p_aadd, Dk.p_asub, Dd.WO, Dk.eq_ss, Dk.ne_ss, Dk.eq_ii, Dk.ne_ii, Dk.isNot_non, Dk.q_add, Dk.q_addt, Dk.q_sub, Dk.q_mod, Dk.q_fdiv, Dk.q_mulr, Dk.q_mull, Dk.q_neg, Dk.q_lt, Dk.q_le, Dk.q_gt, Dk.q_ge, Dk.q_ix0, Dk.q_ix1, Dk.q_ix2, Dk.q_is_t, Dk.q_is_s, Dk.q_is_lt, Dk.q_is_ll, Dk.q_tru, Dk.q_lent, Dk.q_lenr, Dk.q_int, Dk.q_intb, Dk.q_abs, Dk.q_tupr, Dk.q_lstt, Dk.q_lst, Dk.q_tup, Dk.q_oka, Dk.q_oke, Dk.q_okj, Dk.q_app, Dk.q_ext, Dk.q_nm, Dk.q_tp, Dk.q_sa0, Dk.q_sa1, Dk.q_isn, Dk.q_isb, Dk.q_wipe0, Dk.q_wipe1, end_ret]
      refine ⟨by omega, g, ?_⟩
      rw [l2, ← q2, Nat.sub_self]; simp [bytesN]
    · rintro k e hh hk ⟨acc, f, x, y, z, u, rfl, hf, g, l1, l2, q1, q2⟩
      refine ⟨_, rfl, ?_⟩
      simp [Dd.we_ret, Dd.we_bnd, Dd.we_lift, Dd.we_var, Dd.we_args_nil, Dd.we_args_cons, Dd.we_opN, Dd.we_op1, Dd.we_op2, Dd.we_call, Dd.we_tst, Dd.we_tru, Dd.we_notT, Dd.we_andT, Dd.we_orT, Dd.we_notV, Dd.we_andV, Dd.we_orV, Dd.we_ite, Dd.we_chn, Dd.we_mth, Dd.we_slice, Dd.we_intOf, Dd.nx_next, Dd.nx_ret, Dd.nx_ex, Dd.td_next, Dd.td_cont, Dd.td_brk, Dd.td_ret, Dd.td_ex, Dd.nx_brk, Dd.nx_cont, Dd.wp_skip, Dd.wp_seq, Dd.wp_drop, Dd.wp_ret, Dd.wp_asg, Dd.wp_if, Dd.wp_raise, Dd.wp_set, Dk.wp_aug, Dk.wp_brk, Dk.p_and127, Dk.p_and255, Dk.p_and1, Dk.p_shr8, Dk.p_shr16, Dk.p_shr24, Dk.p_ashr7, Dk.p_ashr8, Dk.p_aadd, Dk.p_asub, Dd.WO, Dk.eq_ss, Dk.ne_ss, Dk.eq_ii, Dk.ne_ii, Dk.isNot_non, Dk.q_add, Dk.q_addt, Dk.q_sub, Dk.q_mod, Dk.q_fdiv, Dk.q_mulr, Dk.q_mull, Dk.q_neg, Dk.q_lt, Dk.q_le, Dk.q_gt, Dk.q_ge, Dk.q_ix0, Dk.q_ix1, Dk.q_ix2, Dk.q_is_t, Dk.q_is_s, Dk.q_is_lt, Dk.q_is_ll, Dk.q_tru, Dk.q_lent, Dk.q_lenr, Dk.q_int, Dk.q_intb, Dk.q_abs, Dk.q_tupr, Dk.q_lstt, Dk.q_lst, Dk.q_tup, Dk.q_oka, Dk.q_oke, Dk.q_okj, Dk.q_app, Dk.q_ext, Dk.q_nm, Dk.q_tp, Dk.q_sa0, Dk.q_sa1, Dk.q_isn, Dk.q_isb, Dk.q_wipe0, Dk.q_wipe1]
      refine for_rng (L18 h hh i w V n f k) ?_
      simp only [we_ret]
      refine ⟨8, rfl, by decide, ⟨0, _, _, rfl, rfl, by simp [Nat.mod_one]⟩, ?_, ?_⟩
      · rintro e h3 ⟨t, x, u, rfl, rfl, ht⟩
        have az : acc.length < Z := by omega
        simp [Dd.we_ret, Dd.we_bnd, Dd.we_lift, Dd.we_var, Dd.we_args_nil, Dd.we_args_cons, Dd.we_opN, Dd.we_op1, Dd.we_op2, Dd.we_call, Dd.we_tst, Dd.we_tru, Dd.we_notT, Dd.we_andT, Dd.we_orT, Dd.we_notV, Dd.we_andV, Dd.we_orV, Dd.we_ite, Dd.we_chn, Dd.we_mth, Dd.we_slice, Dd.we_intOf, Dd.nx_next, Dd.nx_ret, Dd.nx_ex, Dd.td_next, Dd.td_cont, Dd.td_brk, Dd.td_ret, Dd.td_ex, Dd.nx_brk, Dd.nx_cont, Dd.wp_skip, Dd.wp_seq, Dd.wp_drop, Dd.wp_ret, Dd.wp_asg, Dd.wp_if, Dd.wp_raise, Dd.wp_set, Dk.wp_aug, Dk.wp_brk, Dk.p_and127, Dk.p_and255, Dk.p_and1, Dk.p_shr8, Dk.p_shr16, Dk.p_shr24, Dk.p_ashr7, Dk.p_ashr8, Dk.p_aadd, Dk.p_asub, Dd.WO, Dk.eq_ss, Dk.ne_ss, Dk.eq_ii, Dk.ne_ii, Dk.isNot_non, Dk.q_add, Dk.q_addt, Dk.q_sub, Dk.q_mod, Dk.q_fdiv, Dk.q_mulr, Dk.q_mull, Dk.q_neg, Dk.q_lt, Dk.q_le, Dk.q_gt, Dk.q_ge, Dk.q_ix0, Dk.q_ix1, Dk.q_ix2, Dk.q_is_t, Dk.q_is_s, Dk.q_is_lt, Dk.q_is_ll, Dk.q_tru, Dk.q_lent, Dk.q_lenr, Dk.q_int, Dk.q_intb, Dk.q_abs, Dk.q_tupr, Dk.q_lstt, Dk.q_lst, Dk.q_tup, Dk.q_oka, Dk.q_oke, Dk.q_okj, Dk.q_app, Dk.q_ext, Dk.q_nm, Dk.q_tp, Dk.q_sa0, Dk.q_sa1, Dk.q_isn, Dk.q_isb, Dk.q_wipe0, Dk.q_wipe1, l2, nD_len, az]
        obtain ⟨r, hr⟩ : ∃ r, (n + 7) / 8 - k = r + 1 := ⟨(n + 7) / 8 - k - 1, by omega⟩
        have p256 : V / 2 ^ (8 * k) = V / 256 ^ k := by rw [Nat.pow_mul]
        refine ⟨acc ++ [t], f, _, _, _, _, rfl, hf, g.set _ (by omega), by rw [lst_other (by omega) l1], by rw [lst_set l2, nD_app]; rfl, by rw [List.length_append, q1]; rfl, ?_⟩
        rw [← q2, hr, bytesN, show (n + 7) / 8 - (k + 1) = r from by omega, List.append_assoc, ht, Nat.pow_succ 256 k, ← Nat.div_div_eq_div_mul, show 8 * k + 8 - 8 = 8 * k from by omega, p256]
        rfl
      · rintro j e h3 hj ⟨t, x, u, rfl, rfl, ht⟩
        refine ⟨_, rfl, ?_⟩
        have st : V / 2 ^ (8 * k + 8 - (j + 1)) % 2 ^ (j + 1) = t * 2 + V / 2 ^ (8 * k + 8 - (j + 1)) % 2 := by
          rw [bit_step, ht, Nat.div_div_eq_div_mul, ← Nat.pow_succ, Nat.succ_eq_add_one, show 8 * k + 8 - (j + 1) + 1 = 8 * k + 8 - j from by omega]
          omega
        have m8 : ∀ h, mulD (.int 8) (.int (k : Int)) h = some (.int (8 * (k : Int)), h) := fun h => q_mulr _ _ h (by omega) (by omega)
        have m2 : ∀ h, mulD (.int (t : Int)) (.int 2) h = some (.int ((t : Int) * 2), h) := fun h => q_mulr _ _ h (by decide) (by decide)
        by_cases c0 : 8 * k + 8 - (j + 1) < n
        · have c1 : 8 * (k : Int) + 7 - (j : Int) < (n : Int) := by omega
          have ix : L2.atI (nD (bitL n V)) (8 * (k : Int) + 7 - (j : Int)) = some (.int ((V / 2 ^ (8 * k + 8 - (j + 1)) % 2 : Nat) : Int)) := by
            refine atI_of (k := 8 * k + 8 - (j + 1)) (by omega) ?_
            unfold nD
            rw [List.getElem?_map, bitL_get _ _ _ c0]; rfl
          obtain ⟨bt, hbt⟩ : ∃ bt, bt = V / 2 ^ (8 * k + 8 - (j + 1)) % 2 := ⟨_, rfl⟩
          rw [← hbt] at ix st
          simp [Dd.we_ret, Dd.we_bnd, Dd.we_lift, Dd.we_var, Dd.we_args_nil, Dd.we_args_cons, Dd.we_opN, Dd.we_op1, Dd.we_op2, Dd.we_call, Dd.we_tst, Dd.we_tru, Dd.we_notT, Dd.we_andT, Dd.we_orT, Dd.we_notV, Dd.we_andV, Dd.we_orV, Dd.we_ite, Dd.we_chn, Dd.we_mth, Dd.we_slice, Dd.we_intOf, Dd.nx_next, Dd.nx_ret, Dd.nx_ex, Dd.td_next, Dd.td_cont, Dd.td_brk, Dd.td_ret, Dd.td_ex, Dd.nx_brk, Dd.nx_cont, Dd.wp_skip, Dd.wp_seq, Dd.wp_drop, Dd.wp_ret, Dd.wp_asg, Dd.wp_if, Dd.wp_raise, Dd.wp_set, Dk.wp_aug, Dk.wp_brk, Dk.p_and127, Dk.p_and255, Dk.p_and1, Dk.p_shr8, Dk.p_shr16, Dk.p_shr24, Dk.p_ashr7, Dk.p_ashr8, Dk.p_aadd, Dk.p_asub, Dd.WO, Dk.eq_ss, Dk.ne_ss, Dk.eq_ii, Dk.ne_ii, Dk.isNot_non, Dk.q_add, Dk.q_addt, Dk.q_sub, Dk.q_mod, Dk.q_fdiv, Dk.q_mulr, Dk.q_mull, Dk.q_neg, Dk.q_lt, Dk.q_le, Dk.q_gt, Dk.q_ge, Dk.q_ix0, Dk.q_ix1, Dk.q_ix2, Dk.q_is_t, Dk.q_is_s, Dk.q_is_lt, Dk.q_is_ll, Dk.q_tru, Dk.q_lent, Dk.q_lenr, Dk.q_int, Dk.q_intb, Dk.q_abs, Dk.q_tupr, Dk.q_lstt, Dk.q_lst, Dk.q_tup, Dk.q_oka, Dk.q_oke, Dk.q_okj, Dk.q_app, Dk.q_ext, Dk.q_nm, Dk.q_tp, Dk.q_sa0, Dk.q_sa1, Dk.q_isn, Dk.q_isb, Dk.q_wipe0, Dk.q_wipe1, lstAt_some l1, nD_len, bitL_len, c1, m8, m2, q_ixr, ix, Dd.pureO]
          exact ⟨t * 2 + bt, _, _, by norm_cast, rfl, st.symm⟩
        · have c1 : ¬ 8 * (k : Int) + 7 - (j : Int) < (n : Int) := by omega
          have z0 : V / 2 ^ (8 * k + 8 - (j + 1)) = 0 := by
            refine Nat.div_eq_of_lt (Nat.lt_of_lt_of_le (by rw [hV]; exact vlt) (Nat.pow_le_pow_right (by decide) ?_))
            rw [← hn]; omega
          simp [Dd.we_ret, Dd.we_bnd, Dd.we_lift, Dd.we_var, Dd.we_args_nil, Dd.we_args_cons, Dd.we_opN, Dd.we_op1, Dd.we_op2, Dd.we_call, Dd.we_tst, Dd.we_tru, Dd.we_notT, Dd.we_andT, Dd.we_orT, Dd.we_notV, Dd.we_andV, Dd.we_orV, Dd.we_ite, Dd.we_chn, Dd.we_mth, Dd.we_slice, Dd.we_intOf, Dd.nx_next, Dd.nx_ret, Dd.nx_ex, Dd.td_next, Dd.td_cont, Dd.td_brk, Dd.td_ret, Dd.td_ex, Dd.nx_brk, Dd.nx_cont, Dd.wp_skip, Dd.wp_seq, Dd.wp_drop, Dd.wp_ret, Dd.wp_asg, Dd.wp_if, Dd.wp_raise, Dd.wp_set, Dk.wp_aug, Dk.wp_brk, Dk.p_and127, Dk.p_and255, Dk.p_and1, Dk.p_shr8, Dk.p_shr16, Dk.p_shr24, Dk.p_ashr7, Dk.p_ashr8, Dk.p_aadd, Dk.p_asub, Dd.WO, Dk.eq_ss, Dk.ne_ss, Dk.eq_ii, Dk.ne_ii, Dk.isNot_non, Dk.q_add, Dk.q_addt, Dk.q_sub, Dk.q_mod, Dk.q_fdiv, Dk.q_mulr, Dk.q_mull, Dk.q_neg, Dk.q_lt, Dk.q_le, Dk.q_gt, Dk.q_ge, Dk.q_ix0, Dk.q_ix1, Dk.q_ix2, Dk.q_is_t, Dk.q_is_s, Dk.q_is_lt, Dk.q_is_ll, Dk.q_tru, Dk.q_lent, Dk.q_lenr, Dk.q_int, Dk.q_intb, Dk.q_abs, Dk.q_tupr, Dk.q_lstt, Dk.q_lst, Dk.q_tup, Dk.q_oka, Dk.q_oke, Dk.q_okj, Dk.q_app, Dk.q_ext, Dk.q_nm, Dk.q_tp, Dk.q_sa0, Dk.q_sa1, Dk.q_isn, Dk.q_isb, Dk.q_wipe0, Dk.q_wipe1, lstAt_some l1, nD_len, bitL_len, c1, m8, m2]
          exact ⟨t * 2, _, _, by norm_cast, rfl, by rw [st, z0]; rfl⟩
  · rintro k d e hh hk ⟨-, -, -, acc, x, y, z, u, v, rfl, g, l1, q1, q2⟩
    have hkl : k < xs.length := by
      have := (List.getElem?_eq_some_iff.mp hk).1
      rwa [nD_len] at this
    rw [nD_get hkl] at hk
    obtain ⟨y, hy⟩ : ∃ y, y = xs[k] := ⟨_, rfl⟩
    have hy2 : y < 2 ^ w := by rw [hy]; exact hx _ (List.getElem_mem _)
    have dr : xs.drop k = y :: xs.drop (k + 1) := by rw [hy]; exact List.drop_eq_getElem_cons hkl
    rw [← hy] at hk
    cases hk
    refine ⟨_, rfl, ?_⟩
    simp [Dd.we_ret, Dd.we_bnd, Dd.we_lift, Dd.we_var, Dd.we_args_nil, Dd.we_args_cons, Dd.we_opN, Dd.we_op1, Dd.we_op2, Dd.we_call, Dd.we_tst, Dd.we_tru, Dd.we_notT, Dd.we_andT, Dd.we_orT, Dd.we_notV, Dd.we_andV, Dd.we_orV, Dd.we_ite, Dd.we_chn, Dd.we_mth, Dd.we_slice, Dd.we_intOf, Dd.nx_next, Dd.nx_ret, Dd.nx_ex, Dd.td_next, Dd.td_cont, Dd.td_brk, Dd.td_ret, Dd.td_ex, Dd.nx_brk, Dd.nx_cont, Dd.wp_skip, Dd.wp_seq, Dd.wp_drop, Dd.wp_ret, Dd.wp_asg, Dd.wp_if, Dd.wp_raise, Dd.wp_set, Dk.wp_aug, Dk.wp_brk, Dk.p_and127, Dk.p_and255, Dk.p_and1, Dk.p_shr8, Dk.p_shr16, Dk.p_shr24, Dk.p_ashr7, Dk.p_ashr8, Dk.p_aadd, Dk.p_asub, Dd.WO, Dk.eq_ss, Dk.ne_ss, Dk.eq_ii, Dk.ne_ii, Dk.isNot_non, Dk.q_add, Dk.q_addt, Dk.q_sub, Dk.q_mod, Dk.q_fdiv, Dk.q_mulr, Dk.q_mull, Dk.q_neg, Dk.q_lt, Dk.q_le, Dk.q_gt, Dk.q_ge, Dk.q_ix0, Dk.q_ix1, Dk.q_ix2, Dk.q_is_t, Dk.q_is_s, Dk.q_is_lt, Dk.q_is_ll, Dk.q_tru, Dk.q_lent, Dk.q_lenr, Dk.q_int, Dk.q_intb, Dk.q_abs, Dk.q_tupr, Dk.q_lstt, Dk.q_lst, Dk.q_tup, Dk.q_oka, Dk.q_oke, Dk.q_okj, Dk.q_app, Dk.q_ext, Dk.q_nm, Dk.q_tp, Dk.q_sa0, Dk.q_sa1, Dk.q_isn, Dk.q_isb, Dk.q_wipe0, Dk.q_wipe1]
    have sp : w * (xs.length - k) = w + w * (xs.length - (k + 1)) := by rw [show xs.length - k = (xs.length - (k + 1)) + 1 from by omega, Nat.mul_succ]; omega
    refine for_rngS w (J18 h i w xs k) ?_ (by omega) ⟨acc, y, _, _, _, _, rfl, g, l1, q1, hy2, ?_⟩ ?_ ?_
    · simp [Dd.we_ret, Dd.we_bnd, Dd.we_lift, Dd.we_var, Dd.we_args_nil, Dd.we_args_cons, Dd.we_opN, Dd.we_op1, Dd.we_op2, Dd.we_call, Dd.we_tst, Dd.we_tru, Dd.we_notT, Dd.we_andT, Dd.we_orT, Dd.we_notV, Dd.we_andV, Dd.we_orV, Dd.we_ite, Dd.we_chn, Dd.we_mth, Dd.we_slice, Dd.we_intOf, Dd.nx_next, Dd.nx_ret, Dd.nx_ex, Dd.td_next, Dd.td_cont, Dd.td_brk, Dd.td_ret, Dd.td_ex, Dd.nx_brk, Dd.nx_cont, Dd.wp_skip, Dd.wp_seq, Dd.wp_drop, Dd.wp_ret, Dd.wp_asg, Dd.wp_if, Dd.wp_raise, Dd.wp_set, Dk.wp_aug, Dk.wp_brk, Dk.p_and127, Dk.p_and255, Dk.p_and1, Dk.p_shr8, Dk.p_shr16, Dk.p_shr24, Dk.p_ashr7, Dk.p_ashr8, Dk.p_aadd, Dk.p_asub, Dd.WO, Dk.eq_ss, Dk.ne_ss, Dk.eq_ii, Dk.ne_ii, Dk.isNot_non, Dk.q_add, Dk.q_addt, Dk.q_sub, Dk.q_mod, Dk.q_fdiv, Dk.q_mulr, Dk.q_mull, Dk.q_neg, Dk.q_lt, Dk.q_le, Dk.q_gt, Dk.q_ge, Dk.q_ix0, Dk.q_ix1, Dk.q_ix2, Dk.q_is_t, Dk.q_is_s, Dk.q_is_lt, Dk.q_is_ll, Dk.q_tru, Dk.q_lent, Dk.q_lenr, Dk.q_int, Dk.q_intb, Dk.q_abs, Dk.q_tupr, Dk.q_lstt, Dk.q_lst, Dk.q_tup, Dk.q_oka, Dk.q_oke, Dk.q_okj, Dk.q_app, Dk.q_ext, Dk.q_nm, Dk.q_tp, Dk.q_sa0, Dk.q_sa1, Dk.q_isn, Dk.q_isb, Dk.q_wipe0, Dk.q_wipe1]
    · rw [← q2, sp, dr]; rfl
    · rintro e hh ⟨acc, m, y, z, u, v, rfl, g, l1, q1, hm, q2⟩
      simp [Dd.we_ret, Dd.we_bnd, Dd.we_lift, Dd.we_var, Dd.we_args_nil, Dd.we_args_cons, Dd.we_opN, Dd.we_op1, Dd.we_op2, Dd.we_call, Dd.we_tst, Dd.we_tru, Dd.we_notT, Dd.we_andT, Dd.we_orT, Dd.we_notV, Dd.we_andV, Dd.we_orV, Dd.we_ite, Dd.we_chn, Dd.we_mth, Dd.we_slice, Dd.we_intOf, Dd.nx_next, Dd.nx_ret, Dd.nx_ex, Dd.td_next, Dd.td_cont, Dd.td_brk, Dd.td_ret, Dd.td_ex, Dd.nx_brk, Dd.nx_cont, Dd.wp_skip, Dd.wp_seq, Dd.wp_drop, Dd.wp_ret, Dd.wp_asg, Dd.wp_if, Dd.wp_raise, Dd.wp_set, Dk.wp_aug, Dk.wp_brk, Dk.p_and127, Dk.p_and255, Dk.p_and1, Dk.p_shr8, Dk.p_shr16, Dk.p_shr24, Dk.p_ashr7, Dk.p_ashr8, Dk.p_aadd, Dk.p_asub, Dd.WO, Dk.eq_ss, Dk.ne_ss, Dk.eq_ii, Dk.ne_ii, Dk.isNot_non, Dk.q_add, Dk.q_addt, Dk.q_sub, Dk.q_mod, Dk.q_fdiv, Dk.q_mulr, Dk.q_mull, Dk.q_neg, Dk.q_lt, Dk.q_le, Dk.q_gt, Dk.q_ge, Dk.q_ix0, Dk.q_ix1, Dk.q_ix2, Dk.q_is_t, Dk.q_is_s, Dk.q_is_lt, Dk.q_is_ll, Dk.q_tru, Dk.q_lent, Dk.q_lenr, Dk.q_int, Dk.q_intb, Dk.q_abs, Dk.q_tupr, Dk.q_lstt, Dk.q_lst, Dk.q_tup, Dk.q_oka, Dk.q_oke, Dk.q_okj, Dk.q_app, Dk.q_ext, Dk.q_nm, Dk.q_tp, Dk.q_sa0, Dk.q_sa1, Dk.q_isn, Dk.q_isb, Dk.q_wipe0, Dk.q_wipe1]
      rw [Nat.sub_self, Nat.pow_zero] at q2 hm
      have m0 : m = 0 := by omega
      rw [m0] at q2
      refine ⟨hkl, acc, _, _, _, _, _, rfl, g, l1, by rw [q1, Nat.mul_succ], ?_⟩
      rw [← q2]; simp
    · rintro j e hh hj ⟨acc, m, y, z, u, v, rfl, g, l1, q1, hm, q2⟩
      refine ⟨_, rfl, ?_⟩
      have zl : acc.length < w * xs.length := by
        have := Nat.mul_le_mul_left w hkl
        rw [Nat.mul_succ] at this
        omega
      have az : acc.length < Z := by omega
      simp [Dd.we_ret, Dd.we_bnd, Dd.we_lift, Dd.we_var, Dd.we_args_nil, Dd.we_args_cons, Dd.we_opN, Dd.we_op1, Dd.we_op2, Dd.we_call, Dd.we_tst, Dd.we_tru, Dd.we_notT, Dd.we_andT, Dd.we_orT, Dd.we_notV, Dd.we_andV, Dd.we_orV, Dd.we_ite, Dd.we_chn, Dd.we_mth, Dd.we_slice, Dd.we_intOf, Dd.nx_next, Dd.nx_ret, Dd.nx_ex, Dd.td_next, Dd.td_cont, Dd.td_brk, Dd.td_ret, Dd.td_ex, Dd.nx_brk, Dd.nx_cont, Dd.wp_skip, Dd.wp_seq, Dd.wp_drop, Dd.wp_ret, Dd.wp_asg, Dd.wp_if, Dd.wp_raise, Dd.wp_set, Dk.wp_aug, Dk.wp_brk, Dk.p_and127, Dk.p_and255, Dk.p_and1, Dk.p_shr8, Dk.p_shr16, Dk.p_shr24, Dk.p_ashr7, Dk.p_ashr8, Dk.p_aadd, Dk.p_asub, Dd.WO, Dk.eq_ss, Dk.ne_ss, Dk.eq_ii, Dk.ne_ii, Dk.isNot_non, Dk.q_add, Dk.q_addt, Dk.q_sub, Dk.q_mod, Dk.q_fdiv, Dk.q_mulr, Dk.q_mull, Dk.q_neg, Dk.q_lt, Dk.q_le, Dk.q_gt, Dk.q_ge, Dk.q_ix0, Dk.q_ix1, Dk.q_ix2, Dk.q_is_t, Dk.q_is_s, Dk.q_is_lt, Dk.q_is_ll, Dk.q_tru, Dk.q_lent, Dk.q_lenr, Dk.q_int, Dk.q_intb, Dk.q_abs, Dk.q_tupr, Dk.q_lstt, Dk.q_lst, Dk.q_tup, Dk.q_oka, Dk.q_oke, Dk.q_okj, Dk.q_app, Dk.q_ext, Dk.q_nm, Dk.q_tp, Dk.q_sa0, Dk.q_sa1, Dk.q_isn, Dk.q_isb, Dk.q_wipe0, Dk.q_wipe1, l1, nD_len, az]
      have hm' : m / 2 < 2 ^ (w - (j + 1)) := by
        rw [show w - j = (w - (j + 1)) + 1 from by omega, Nat.pow_succ] at hm
        omega
      refine ⟨acc ++ [m % 2], m / 2, _, _, _, _, rfl, g.set _ (Nat.le_refl _), by rw [lst_set l1, nD_app]; rfl, by rw [List.length_append, q1]; rfl, hm', ?_⟩
      rw [← q2, show w - j = (w - (j + 1)) + 1 from by omega, show w - (j + 1) + 1 + w * (xs.length - (k + 1)) = w - (j + 1) + w * (xs.length - (k + 1)) + 1 from by omega, bitL, List.append_assoc]
      have ee := emitW (a := m) (v := valN w (xs.drop (k + 1))) (w := 1) (f := w - (j + 1) + 1) (by omega)
      rw [show (2 : Nat) ^ 1 = 2 from rfl, Nat.add_sub_cancel] at ee
      rw [ee.1, ee.2]; rfl
end Dk

set_option Elab.async false
set_option linter.all false
set_option maxRecDepth 100000
set_option maxHeartbeats 4000000
namespace Dk
open PySem PySem.Spec PyProof.Rows L2 Dd

theorem for_listS {a : M D} {t : Tg} {b : MS} {e : DE} {h : DH} {Q : Fl → DE → DH → Prop} (i : Nat) (xs : List D) (h1 : DH) (Inv : Nat → DE → DH → Prop)
    (w : WE a e h (fun d h' => d = .ref i ∧ h' = h1) fun _ _ _ => False) (l : lstAt h1 i = some xs) (i0 : Inv 0 e h1) (keep : ∀ k e hh, Inv k e hh → lstAt hh i = some xs) (hd : ∀ e h, Inv xs.length e h → Q .next e h)
    (step : ∀ k d e h, xs[k]? = some d → Inv k e h → ∃ e1, t.put d h e = some e1 ∧ WP b e1 h (Turned Q (Inv (k + 1)))) : WP (forS (bnd a fun x => lift (srcD x)) t b) e h Q := by
  refine for_list (fun i' ys k e hh => Inv k e hh) (w.mono (fun d h2 x => ?_) fun _ _ _ x => x.elim)
  obtain ⟨rfl, rfl⟩ := x
  exact ⟨i, xs, rfl, l, i0, keep, hd, step⟩
theorem cut_mid {α : Type} {xs : List α} {a b : Nat} (h : a ≤ b) (hb : b ≤ xs.length) : Dd.cutD xs (some (a : Int)) (some (b : Int)) = (xs.drop a).take (b - a) := by
  unfold Dd.cutD
  rw [HT.sIx_nat, HT.sIx_nat, Nat.min_eq_left hb, Nat.min_eq_left (by omega : a ≤ xs.length)]
theorem nD_drop (xs : List Nat) (a : Nat) : (nD xs).drop a = nD (xs.drop a) := List.map_drop.symm
theorem nD_take (xs : List Nat) (a : Nat) : (nD xs).take a = nD (xs.take a) := List.map_take.symm
theorem q_slr (i : Nat) (lo hi : Option Int) (h : DH) : sliceD (.ref i) lo hi h = (match lstAt h i with
    | some xs => newOb (.lst (cutD xs lo hi)) h
    | none => none) := rfl
theorem q_mulr' (i : Nat) (j : Int) (h : DH) : mulD (.ref i) (.int j) h = (match lstAt h i with
    | some xs => if below j 9223372036854775808 = true ∧ xs.length * j.toNat ≤ Z then newOb (.lst (List.replicate j.toNat xs).flatten) h else none
    | none => none) := rfl
theorem flat_rep (n : Nat) (x : D) : (List.replicate n [x]).flatten = List.replicate n x := by
  induction n with
  | zero => rfl
  | succ n ih => rw [List.replicate_succ, List.flatten_cons, ih, List.replicate_succ]; rfl
theorem digN_zero (n v : Nat) : nD (digN 0 n v) = List.replicate n (D.int 0) := by
  induction n generalizing v with
  | zero => rfl
  | succ n ih =>
    rw [digN, List.replicate_succ, ← ih (v / 2 ^ 0), Nat.pow_zero, Nat.mod_one]; rfl
def I8 (h : DH) (i at_ count w : Nat) (e0 e1 : D) (X : Nat) (bs : List Nat) (k j lo : Nat) (e : DE) (hh : DH) : Prop := ∃ (held filled : Nat) (acc : List Nat) (x : Option D), e = [some (.ref i), some (.int (at_ : Int)), some (.int (count : Int)), some (.int (w : Int)), some e0, some e1, some (.ref h.length), some (.int (held : Int)), some (.int (filled : Int)), x] ∧ Grow h hh ∧ lstAt hh h.length = some (nD acc) ∧
  held < 2 ^ filled ∧ (filled < lo ∨ acc.length = count) ∧ w * acc.length + filled = 8 * k ∧ acc.length ≤ count ∧ acc ++ digN w (count - acc.length) (held + 2 ^ filled * valN 8 (bs.drop k)) = digN w count X ∧ (held + 2 ^ filled * valN 8 (bs.drop k)) / 2 ^ (w * (count - acc.length)) = X / 2 ^ (w * count) ∧ filled ≤ j
theorem w8 (c i : Nat) (data : List Nat) (at_ count w : Nat) (h : DH) (l : lstAt h i = some (nD data)) (hb : ∀ x ∈ data, x < 256) (hw : w ≤ 64) (hz : count ≤ 1000000) : WC (pg.run (c + 1)) 8 [.ref i, .int (at_ : Int), .int (count : Int), .int (w : Int)] h
    (fun d h' => ∃ f, d = .tup [.ref f, .int ((at_ + (count * w + 7) / 8 : Nat) : Int)] ∧ h.length ≤ f ∧ Grow h h' ∧ lstAt h' f = some (nD (digN w count (valN 8 ((data.drop at_).take ((count * w + 7) / 8))))) ∧ (w ≠ 0 → at_ + (count * w + 7) / 8 ≤ data.length) ∧ valN 8 ((data.drop at_).take ((count * w + 7) / 8)) < 2 ^ (w * count))
    fun c _ h' => c = 0 ∧ Grow h h' ∧ w ≠ 0 ∧ (data.length < at_ + (count * w + 7) / 8 ∨ 2 ^ (w * count) ≤ valN 8 ((data.drop at_).take ((count * w + 7) / 8))) := by
  refine wc_of (f := f8) rfl e8 rfl ?_
  have zz : Z = 16777216 := rfl
  have hi : i < h.length := (List.getElem?_eq_some_iff.mp (lstAt_some l)).1
  unfold b8
  by_cases w0 : w = 0
  · subst w0
    have bl : below (count : Int) 9223372036854775808 = true := below_iff.mpr (by omega)
    have l1 : lstAt (h ++ [Ob.lst [D.int 0]]) h.length = some [D.int 0] := lst_new
    have cz : count ≤ Z := by omega
    simp [startD, f8, Dd.we_ret, Dd.we_bnd, Dd.we_lift, Dd.we_var, Dd.we_args_nil, Dd.we_args_cons, Dd.we_opN, Dd.we_op1, Dd.we_op2, Dd.we_call, Dd.we_tst, Dd.we_tru, Dd.we_notT, Dd.we_andT, Dd.we_orT, Dd.we_notV, Dd.we_andV, Dd.we_orV, Dd.we_ite, Dd.we_chn, Dd.we_mth, Dd.we_slice, Dd.we_intOf, Dd.nx_next, Dd.nx_ret, Dd.nx_ex, Dd.td_next, Dd.td_cont, Dd.td_brk, Dd.td_ret, Dd.td_ex, Dd.nx_brk, Dd.nx_cont, Dd.wp_skip, Dd.wp_seq, Dd.wp_drop, Dd.wp_ret, Dd.wp_asg, Dd.wp_if, Dd.wp_raise, Dd.wp_set, Dk.wp_aug, Dk.wp_brk, Dk.p_and127, Dk.p_and255, Dk.p_and1, Dk.p_shr8, Dk.p_shr16, Dk.p_shr24, Dk.p_ashr7, Dk.p_ashr8, Dk.p_aadd, Dk.p_asub, Dd.WO, Dk.eq_ss, Dk.ne_ss, Dk.eq_ii, Dk.ne_ii, Dk.isNot_non, Dk.q_add, Dk.q_addt, Dk.q_sub, Dk.q_mod, Dk.q_fdiv, Dk.q_mulr, Dk.q_mull, Dk.q_neg, Dk.q_lt, Dk.q_le, Dk.q_gt, Dk.q_ge, Dk.q_ix0, Dk.q_ix1, Dk.q_ix2, Dk.q_is_t, Dk.q_is_s, Dk.q_is_lt, Dk.q_is_ll, Dk.q_tru, Dk.q_lent, Dk.q_lenr, Dk.q_int, Dk.q_intb, Dk.q_abs, Dk.q_tupr, Dk.q_lstt, Dk.q_lst, Dk.q_tup, Dk.q_oka, Dk.q_oke, Dk.q_okj, Dk.q_app, Dk.q_ext, Dk.q_nm, Dk.q_tp, Dk.q_sa0, Dk.q_sa1, Dk.q_isn, Dk.q_isb, Dk.q_wipe0, Dk.q_wipe1, q_mulr', l1, bl, cz, newOb, end_ret]
    refine ⟨⟨_, rfl⟩, ?_, by simp [valN]⟩
    rw [digN_zero]
    exact lst_app (k := 1) rfl rfl
  · have w1 : ¬ (w : Int) = 0 := by omega
    have cw : count * w ≤ 64000000 := by have := Nat.mul_le_mul hz hw; omega
    obtain ⟨nb, hnb⟩ : ∃ nb, nb = (count * w + 7) / 8 := ⟨_, rfl⟩
    rw [← hnb]
    obtain ⟨bs, hbs⟩ : ∃ bs, bs = (data.drop at_).take nb := ⟨_, rfl⟩
    rw [← hbs]
    obtain ⟨X, hX⟩ : ∃ X, X = valN 8 bs := ⟨_, rfl⟩
    rw [← hX]
    have m1 : ∀ h, mulD (.int (count : Int)) (.int (w : Int)) h = some (.int ((count * w : Nat) : Int), h) := fun h => by
      rw [q_mulr _ _ _ (by omega) (by omega)]; norm_cast
    have fd : ∀ h, fdivD (.int ((count * w : Nat) + 7 : Int)) (.int 8) h = some (.int (nb : Int), h) := fun h => by
      rw [q_fdiv _ _ _ (by decide) (by decide), hnb]; norm_cast
    obtain ⟨cwv, hcwv⟩ : ∃ v, v = count * w := ⟨_, rfl⟩
    rw [← hcwv] at m1 fd
    by_cases c0 : at_ + nb ≤ data.length
    · have c1 : ¬ ((data.length : Int) < (at_ : Int) + (nb : Int)) := by omega
      obtain ⟨v, hv⟩ : ∃ v, v = 1 * 2 ^ w := ⟨_, rfl⟩
      have sh : ∀ h, shlD (.int 1) (.int (w : Int)) h = some (.int (v : Int), h) := fun h => p_shl' (a := 1) (by decide) (by omega) hv h
      have bl : bs.length = nb := by rw [hbs, List.length_take, List.length_drop]; omega
      have hb2 : ∀ x ∈ bs, x < 256 := fun x hx => hb x (by rw [hbs] at hx; exact List.mem_of_mem_drop (List.mem_of_mem_take hx))
      simp [startD, f8, Dd.we_ret, Dd.we_bnd, Dd.we_lift, Dd.we_var, Dd.we_args_nil, Dd.we_args_cons, Dd.we_opN, Dd.we_op1, Dd.we_op2, Dd.we_call, Dd.we_tst, Dd.we_tru, Dd.we_notT, Dd.we_andT, Dd.we_orT, Dd.we_notV, Dd.we_andV, Dd.we_orV, Dd.we_ite, Dd.we_chn, Dd.we_mth, Dd.we_slice, Dd.we_intOf, Dd.nx_next, Dd.nx_ret, Dd.nx_ex, Dd.td_next, Dd.td_cont, Dd.td_brk, Dd.td_ret, Dd.td_ex, Dd.nx_brk, Dd.nx_cont, Dd.wp_skip, Dd.wp_seq, Dd.wp_drop, Dd.wp_ret, Dd.wp_asg, Dd.wp_if, Dd.wp_raise, Dd.wp_set, Dk.wp_aug, Dk.wp_brk, Dk.p_and127, Dk.p_and255, Dk.p_and1, Dk.p_shr8, Dk.p_shr16, Dk.p_shr24, Dk.p_ashr7, Dk.p_ashr8, Dk.p_aadd, Dk.p_asub, Dd.WO, Dk.eq_ss, Dk.ne_ss, Dk.eq_ii, Dk.ne_ii, Dk.isNot_non, Dk.q_add, Dk.q_addt, Dk.q_sub, Dk.q_mod, Dk.q_fdiv, Dk.q_mulr, Dk.q_mull, Dk.q_neg, Dk.q_lt, Dk.q_le, Dk.q_gt, Dk.q_ge, Dk.q_ix0, Dk.q_ix1, Dk.q_ix2, Dk.q_is_t, Dk.q_is_s, Dk.q_is_lt, Dk.q_is_ll, Dk.q_tru, Dk.q_lent, Dk.q_lenr, Dk.q_int, Dk.q_intb, Dk.q_abs, Dk.q_tupr, Dk.q_lstt, Dk.q_lst, Dk.q_tup, Dk.q_oka, Dk.q_oke, Dk.q_okj, Dk.q_app, Dk.q_ext, Dk.q_nm, Dk.q_tp, Dk.q_sa0, Dk.q_sa1, Dk.q_isn, Dk.q_isb, Dk.q_wipe0, Dk.q_wipe1, w0, m1, fd, lstAt_some l, nD_len, c1, sh]
      have l3 : lstAt (h ++ [Ob.lst []]) i = some (nD data) := (Grow.one h _).lst l
      have slD : cutD (nD data) (some (at_ : Int)) (some ((at_ : Int) + (nb : Int))) = nD bs := by
        rw [show (at_ : Int) + (nb : Int) = ((at_ + nb : Nat) : Int) from by omega, cut_mid (by omega) (by rw [nD_len]; exact c0), nD_drop, nD_take, Nat.add_sub_cancel_left, hbs]
      have l4 : lstAt (h ++ [Ob.lst []] ++ [Ob.lst (nD bs)]) (h ++ [Ob.lst []]).length = some (nD bs) := lst_new
      have l5 : lstAt (h ++ [Ob.lst []] ++ [Ob.lst (nD bs)]) h.length = some (nD []) := (Grow.one _ _).lst lst_new
      have g0 : Grow h (h ++ [Ob.lst []] ++ [Ob.lst (nD bs)]) := (Grow.one h _).trans (Grow.one _ _)
      have al : (h ++ [Ob.lst []]).length = h.length + 1 := List.length_append
      refine for_listS (h.length + 1) (nD bs) (h ++ [Ob.lst []] ++ [Ob.lst (nD bs)]) (fun k e hh => k ≤ nb ∧ lstAt hh (h.length + 1) = some (nD bs) ∧ I8 h i at_ count w (.int ((at_ : Int) + (nb : Int))) (.int ((v : Int) - 1)) X bs k 100 w e hh) ?_ ?_ ⟨Nat.zero_le _, ?_, 0, 0, [], _, rfl, g0, l5, by decide, .inl (by omega), rfl, Nat.zero_le _, ?_, ?_, by decide⟩ ?_ ?_ ?_
      · simp [Dd.we_ret, Dd.we_bnd, Dd.we_lift, Dd.we_var, Dd.we_args_nil, Dd.we_args_cons, Dd.we_opN, Dd.we_op1, Dd.we_op2, Dd.we_call, Dd.we_tst, Dd.we_tru, Dd.we_notT, Dd.we_andT, Dd.we_orT, Dd.we_notV, Dd.we_andV, Dd.we_orV, Dd.we_ite, Dd.we_chn, Dd.we_mth, Dd.we_slice, Dd.we_intOf, Dd.nx_next, Dd.nx_ret, Dd.nx_ex, Dd.td_next, Dd.td_cont, Dd.td_brk, Dd.td_ret, Dd.td_ex, Dd.nx_brk, Dd.nx_cont, Dd.wp_skip, Dd.wp_seq, Dd.wp_drop, Dd.wp_ret, Dd.wp_asg, Dd.wp_if, Dd.wp_raise, Dd.wp_set, Dk.wp_aug, Dk.wp_brk, Dk.p_and127, Dk.p_and255, Dk.p_and1, Dk.p_shr8, Dk.p_shr16, Dk.p_shr24, Dk.p_ashr7, Dk.p_ashr8, Dk.p_aadd, Dk.p_asub, Dd.WO, Dk.eq_ss, Dk.ne_ss, Dk.eq_ii, Dk.ne_ii, Dk.isNot_non, Dk.q_add, Dk.q_addt, Dk.q_sub, Dk.q_mod, Dk.q_fdiv, Dk.q_mulr, Dk.q_mull, Dk.q_neg, Dk.q_lt, Dk.q_le, Dk.q_gt, Dk.q_ge, Dk.q_ix0, Dk.q_ix1, Dk.q_ix2, Dk.q_is_t, Dk.q_is_s, Dk.q_is_lt, Dk.q_is_ll, Dk.q_tru, Dk.q_lent, Dk.q_lenr, Dk.q_int, Dk.q_intb, Dk.q_abs, Dk.q_tupr, Dk.q_lstt, Dk.q_lst, Dk.q_tup, Dk.q_oka, Dk.q_oke, Dk.q_okj, Dk.q_app, Dk.q_ext, Dk.q_nm, Dk.q_tp, Dk.q_sa0, Dk.q_sa1, Dk.q_isn, Dk.q_isb, Dk.q_wipe0, Dk.q_wipe1, q_slr, l3, slD, newOb]
      · rw [← al]; exact l4
      · rw [← al]; exact l4
      · rw [List.length_nil, Nat.sub_zero, List.drop_zero, Nat.pow_zero, Nat.zero_add, Nat.one_mul, ← hX]; rfl
      · rw [List.length_nil, Nat.sub_zero, List.drop_zero, Nat.pow_zero, Nat.zero_add, Nat.one_mul, ← hX]
      · rintro k e hh ⟨-, l6, -⟩
        exact l6
      · rintro e hh ⟨-, l6, held, filled, acc, x, rfl, g, l7, q1, q2, q3, q4, q5, q6, -⟩
        rw [nD_len, List.drop_length, valN, Nat.mul_zero, Nat.add_zero] at q5 q6
        rw [nD_len, bl] at q3
        have full : acc.length = count := by
          rcases q2 with q2 | q2
          · refine Nat.le_antisymm q4 (Nat.le_of_not_lt fun lt => ?_)
            have h1 : w * (acc.length + 1) ≤ w * count := Nat.mul_le_mul_left _ lt
            rw [Nat.mul_succ] at h1
            have h2 : w * count = cwv := by rw [hcwv, Nat.mul_comm]
            omega
          · exact q2
        rw [full, Nat.sub_self, digN, List.append_nil] at q5
        rw [full, Nat.sub_self, Nat.mul_zero, Nat.pow_zero, Nat.div_one] at q6
        have hX2 : held = 0 ↔ X < 2 ^ (w * count) := by
          rw [q6, Nat.div_eq_zero_iff]
          have := Nat.two_pow_pos (w * count)
          constructor
          · rintro (z | z)
            · omega
            · exact z
          · exact .inr
        by_cases z0 : held = 0
        · have z1 := hX2.mp z0
          simp [Dd.we_ret, Dd.we_bnd, Dd.we_lift, Dd.we_var, Dd.we_args_nil, Dd.we_args_cons, Dd.we_opN, Dd.we_op1, Dd.we_op2, Dd.we_call, Dd.we_tst, Dd.we_tru, Dd.we_notT, Dd.we_andT, Dd.we_orT, Dd.we_notV, Dd.we_andV, Dd.we_orV, Dd.we_ite, Dd.we_chn, Dd.we_mth, Dd.we_slice, Dd.we_intOf, Dd.nx_next, Dd.nx_ret, Dd.nx_ex, Dd.td_next, Dd.td_cont, Dd.td_brk, Dd.td_ret, Dd.td_ex, Dd.nx_brk, Dd.nx_cont, Dd.wp_skip, Dd.wp_seq, Dd.wp_drop, Dd.wp_ret, Dd.wp_asg, Dd.wp_if, Dd.wp_raise, Dd.wp_set, Dk.wp_aug, Dk.wp_brk, Dk.p_and127, Dk.p_and255, Dk.p_and1, Dk.p_shr8, Dk.p_shr16, Dk.p_shr24, Dk.p_ashr7, Dk.p_ashr8, Dk.p_aadd, Dk.p_asub, Dd.WO, Dk.eq_ss, Dk.ne_ss, Dk.eq_ii, Dk.ne_ii, Dk.isNot_non, Dk.q_add, Dk.q_addt, Dk.q_sub, Dk.q_mod, Dk.q_fdiv, Dk.q_mulr, Dk.q_mull, Dk.q_neg, Dk.q_lt, Dk.q_le, Dk.q_gt, Dk.q_ge, Dk.q_ix0, Dk.q_ix1, Dk.q_ix2, Dk.q_is_t, Dk.q_is_s, Dk.q_is_lt, Dk.q_is_ll, Dk.q_tru, Dk.q_lent, Dk.q_lenr, Dk.q_int, Dk.q_intb, Dk.q_abs, Dk.q_tupr, Dk.q_lstt, Dk.q_lst, Dk.q_tup, Dk.q_oka, Dk.q_oke, Dk.q_okj, Dk.q_app, Dk.q_ext, Dk.q_nm, Dk.q_tp, Dk.q_sa0, Dk.q_sa1, Dk.q_isn, Dk.q_isb, Dk.q_wipe0, Dk.q_wipe1, z0, end_ret]
          exact ⟨g, by rw [l7, q5], c0, z1⟩
        · have z1 : 2 ^ (w * count) ≤ X := Nat.le_of_not_lt fun z => z0 (hX2.mpr z)
          simp [Dd.we_ret, Dd.we_bnd, Dd.we_lift, Dd.we_var, Dd.we_args_nil, Dd.we_args_cons, Dd.we_opN, Dd.we_op1, Dd.we_op2, Dd.we_call, Dd.we_tst, Dd.we_tru, Dd.we_notT, Dd.we_andT, Dd.we_orT, Dd.we_notV, Dd.we_andV, Dd.we_orV, Dd.we_ite, Dd.we_chn, Dd.we_mth, Dd.we_slice, Dd.we_intOf, Dd.nx_next, Dd.nx_ret, Dd.nx_ex, Dd.td_next, Dd.td_cont, Dd.td_brk, Dd.td_ret, Dd.td_ex, Dd.nx_brk, Dd.nx_cont, Dd.wp_skip, Dd.wp_seq, Dd.wp_drop, Dd.wp_ret, Dd.wp_asg, Dd.wp_if, Dd.wp_raise, Dd.wp_set, Dk.wp_aug, Dk.wp_brk, Dk.p_and127, Dk.p_and255, Dk.p_and1, Dk.p_shr8, Dk.p_shr16, Dk.p_shr24, Dk.p_ashr7, Dk.p_ashr8, Dk.p_aadd, Dk.p_asub, Dd.WO, Dk.eq_ss, Dk.ne_ss, Dk.eq_ii, Dk.ne_ii, Dk.isNot_non, Dk.q_add, Dk.q_addt, Dk.q_sub, Dk.q_mod, Dk.q_fdiv, Dk.q_mulr, Dk.q_mull, Dk.q_neg, Dk.q_lt, Dk.q_le, Dk.q_gt, Dk.q_ge, Dk.q_ix0, Dk.q_ix1, Dk.q_ix2, Dk.q_is_t, Dk.q_is_s, Dk.q_is_lt, Dk.q_is_ll, Dk.q_tru, Dk.q_lent, Dk.q_lenr, Dk.q_int, Dk.q_intb, Dk.q_abs, Dk.q_tupr, Dk.q_lstt, Dk.q_lst, Dk.q_tup, Dk.q_oka, Dk.q_oke, Dk.q_okj, Dk.q_app, Dk.q_ext, Dk.q_nm, Dk.q_tp, Dk.q_sa0, Dk.q_sa1, Dk.q_isn, Dk.q_isb, Dk.q_wipe0, Dk.q_wipe1, z0, end_ex]
          exact ⟨g, .inr z1⟩
      · rintro k d e hh hk ⟨hk2, l6, held, filled, acc, x, rfl, g, l7, q1, q2, q3, q4, q5, q6, hj⟩
        have hkl : k < bs.length := by
          have := (List.getElem?_eq_some_iff.mp hk).1
          rwa [nD_len] at this
        rw [nD_get hkl] at hk
        obtain ⟨y, hy⟩ : ∃ y, y = bs[k] := ⟨_, rfl⟩
        have hy2 : y < 256 := by rw [hy]; exact hb2 _ (List.getElem_mem _)
        have dr : bs.drop k = y :: bs.drop (k + 1) := by rw [hy]; exact List.drop_eq_getElem_cons hkl
        rw [← hy] at hk
        cases hk
        refine ⟨_, rfl, ?_⟩
        obtain ⟨v2, hv2⟩ : ∃ v, v = y * 2 ^ filled := ⟨_, rfl⟩
        obtain ⟨u, hu⟩ : ∃ u, u = held + v2 := ⟨_, rfl⟩
        have s1 : ∀ h, shlD (.int (y : Int)) (.int (filled : Int)) h = some (.int (v2 : Int), h) := fun h => p_shl' (by omega) (by omega) hv2 h
        have s2 : ∀ h, augOr (.int (held : Int)) (.int (v2 : Int)) h = some (.int (u : Int), h) := fun h => p_aor' q1 hv2 hu h
        simp [Dd.we_ret, Dd.we_bnd, Dd.we_lift, Dd.we_var, Dd.we_args_nil, Dd.we_args_cons, Dd.we_opN, Dd.we_op1, Dd.we_op2, Dd.we_call, Dd.we_tst, Dd.we_tru, Dd.we_notT, Dd.we_andT, Dd.we_orT, Dd.we_notV, Dd.we_andV, Dd.we_orV, Dd.we_ite, Dd.we_chn, Dd.we_mth, Dd.we_slice, Dd.we_intOf, Dd.nx_next, Dd.nx_ret, Dd.nx_ex, Dd.td_next, Dd.td_cont, Dd.td_brk, Dd.td_ret, Dd.td_ex, Dd.nx_brk, Dd.nx_cont, Dd.wp_skip, Dd.wp_seq, Dd.wp_drop, Dd.wp_ret, Dd.wp_asg, Dd.wp_if, Dd.wp_raise, Dd.wp_set, Dk.wp_aug, Dk.wp_brk, Dk.p_and127, Dk.p_and255, Dk.p_and1, Dk.p_shr8, Dk.p_shr16, Dk.p_shr24, Dk.p_ashr7, Dk.p_ashr8, Dk.p_aadd, Dk.p_asub, Dd.WO, Dk.eq_ss, Dk.ne_ss, Dk.eq_ii, Dk.ne_ii, Dk.isNot_non, Dk.q_add, Dk.q_addt, Dk.q_sub, Dk.q_mod, Dk.q_fdiv, Dk.q_mulr, Dk.q_mull, Dk.q_neg, Dk.q_lt, Dk.q_le, Dk.q_gt, Dk.q_ge, Dk.q_ix0, Dk.q_ix1, Dk.q_ix2, Dk.q_is_t, Dk.q_is_s, Dk.q_is_lt, Dk.q_is_ll, Dk.q_tru, Dk.q_lent, Dk.q_lenr, Dk.q_int, Dk.q_intb, Dk.q_abs, Dk.q_tupr, Dk.q_lstt, Dk.q_lst, Dk.q_tup, Dk.q_oka, Dk.q_oke, Dk.q_okj, Dk.q_app, Dk.q_ext, Dk.q_nm, Dk.q_tp, Dk.q_sa0, Dk.q_sa1, Dk.q_isn, Dk.q_isb, Dk.q_wipe0, Dk.q_wipe1, s1, s2]
        have hu2 : u < 2 ^ (filled + 8) := by
          rw [hu, hv2, Nat.pow_add]
          have : 2 ^ filled * (y + 1) ≤ 2 ^ filled * 2 ^ 8 := Nat.mul_le_mul_left _ hy2
          rw [Nat.mul_add] at this
          rw [Nat.mul_comm y]; omega
        have hX3 : held + 2 ^ filled * valN 8 (bs.drop k) = u + 2 ^ (filled + 8) * valN 8 (bs.drop (k + 1)) := by
          rw [dr, valN, hu, hv2, Nat.pow_add, Nat.mul_add, Nat.mul_comm y, Nat.mul_assoc]
          simp only [Nat.add_assoc]
        rw [hX3] at q5 q6
        refine wp_while (N := filled + 8) (fun n e hh => lstAt hh (h.length + 1) = some (nD bs) ∧ I8 h i at_ count w (.int ((at_ : Int) + (nb : Int))) (.int ((v : Int) - 1)) X bs (k + 1) n 1000 e hh) (by omega) ⟨l6, u, filled + 8, acc, _, rfl, g, l7, hu2, .inl (by omega), by omega, q4, q5, q6, Nat.le_refl _⟩ ?_
        clear q1 q2 q3 q4 q5 q6 hX3 hu2 s1 s2 g l7
        rintro n e hh ⟨l6, held, filled, acc, x, rfl, g, l7, q1, q2, q3, q4, q5, q6, hj⟩
        have mk : ∀ h, andD (.int (held : Int)) (.int ((v : Int) - 1)) h = some (.int ((held % 2 ^ w : Nat) : Int), h) := fun h => p_mask' (by rw [hv, Nat.one_mul]; norm_cast) h
        obtain ⟨m, hm⟩ : ∃ m, m = held % 2 ^ w := ⟨_, rfl⟩
        rw [← hm] at mk
        obtain ⟨q, hq⟩ : ∃ q, q = held / 2 ^ w := ⟨_, rfl⟩
        have sr : ∀ h, augShr (.int (held : Int)) (.int (w : Int)) h = some (.int (q : Int), h) := fun h => p_ashr' hq h
        by_cases d0 : w ≤ filled
        · have d1 : (w : Int) ≤ (filled : Int) := by omega
          by_cases d2 : acc.length < count
          · have d3 : (acc.length : Int) < (count : Int) := by omega
            have az : acc.length < Z := by omega
            simp [Dd.we_ret, Dd.we_bnd, Dd.we_lift, Dd.we_var, Dd.we_args_nil, Dd.we_args_cons, Dd.we_opN, Dd.we_op1, Dd.we_op2, Dd.we_call, Dd.we_tst, Dd.we_tru, Dd.we_notT, Dd.we_andT, Dd.we_orT, Dd.we_notV, Dd.we_andV, Dd.we_orV, Dd.we_ite, Dd.we_chn, Dd.we_mth, Dd.we_slice, Dd.we_intOf, Dd.nx_next, Dd.nx_ret, Dd.nx_ex, Dd.td_next, Dd.td_cont, Dd.td_brk, Dd.td_ret, Dd.td_ex, Dd.nx_brk, Dd.nx_cont, Dd.wp_skip, Dd.wp_seq, Dd.wp_drop, Dd.wp_ret, Dd.wp_asg, Dd.wp_if, Dd.wp_raise, Dd.wp_set, Dk.wp_aug, Dk.wp_brk, Dk.p_and127, Dk.p_and255, Dk.p_and1, Dk.p_shr8, Dk.p_shr16, Dk.p_shr24, Dk.p_ashr7, Dk.p_ashr8, Dk.p_aadd, Dk.p_asub, Dd.WO, Dk.eq_ss, Dk.ne_ss, Dk.eq_ii, Dk.ne_ii, Dk.isNot_non, Dk.q_add, Dk.q_addt, Dk.q_sub, Dk.q_mod, Dk.q_fdiv, Dk.q_mulr, Dk.q_mull, Dk.q_neg, Dk.q_lt, Dk.q_le, Dk.q_gt, Dk.q_ge, Dk.q_ix0, Dk.q_ix1, Dk.q_ix2, Dk.q_is_t, Dk.q_is_s, Dk.q_is_lt, Dk.q_is_ll, Dk.q_tru, Dk.q_lent, Dk.q_lenr, Dk.q_int, Dk.q_intb, Dk.q_abs, Dk.q_tupr, Dk.q_lstt, Dk.q_lst, Dk.q_tup, Dk.q_oka, Dk.q_oke, Dk.q_okj, Dk.q_app, Dk.q_ext, Dk.q_nm, Dk.q_tp, Dk.q_sa0, Dk.q_sa1, Dk.q_isn, Dk.q_isb, Dk.q_wipe0, Dk.q_wipe1, d0, d1, d2, d3, lstAt_some l7, nD_len, l7, az, mk, sr]
            obtain ⟨n', rfl⟩ : ∃ n', n = n' + 1 := ⟨n - 1, by omega⟩
            obtain ⟨r, hr⟩ : ∃ r, count - acc.length = r + 1 := ⟨count - acc.length - 1, by omega⟩
            have hr' : count - (acc ++ [m]).length = r := by rw [List.length_append]; show count - (acc.length + 1) = r; omega
            have ee := emitW (a := held) (f := filled) (v := valN 8 (bs.drop (k + 1))) d0
            rw [hr] at q5 q6
            refine ⟨n', rfl, by rw [lst_other (by omega) l6], q, filled - w, acc ++ [m], _, by rw [show ((filled - w : Nat) : Int) = (filled : Int) - (w : Int) from by omega], g.set _ (Nat.le_refl _), by rw [lst_set l7, nD_app]; rfl, by rw [hq]; exact div_lt_pow d0 q1, ?_, ?_, ?_, ?_, ?_, by omega⟩
            · exact .inl (by omega)
            · rw [List.length_append, ← q3]; show w * (acc.length + 1) + _ = _; rw [Nat.mul_succ]; omega
            · rw [List.length_append]; show acc.length + 1 ≤ count; omega
            · rw [← q5, hr', digN, ee.1, ee.2, hm, hq, List.append_assoc]; rfl
            · rw [← q6, hr', hq, ← ee.2, Nat.div_div_eq_div_mul, ← Nat.pow_add, Nat.mul_succ, Nat.add_comm w]
          · have d3 : ¬ (acc.length : Int) < (count : Int) := by omega
            have full : acc.length = count := by omega
            simp [Dd.we_ret, Dd.we_bnd, Dd.we_lift, Dd.we_var, Dd.we_args_nil, Dd.we_args_cons, Dd.we_opN, Dd.we_op1, Dd.we_op2, Dd.we_call, Dd.we_tst, Dd.we_tru, Dd.we_notT, Dd.we_andT, Dd.we_orT, Dd.we_notV, Dd.we_andV, Dd.we_orV, Dd.we_ite, Dd.we_chn, Dd.we_mth, Dd.we_slice, Dd.we_intOf, Dd.nx_next, Dd.nx_ret, Dd.nx_ex, Dd.td_next, Dd.td_cont, Dd.td_brk, Dd.td_ret, Dd.td_ex, Dd.nx_brk, Dd.nx_cont, Dd.wp_skip, Dd.wp_seq, Dd.wp_drop, Dd.wp_ret, Dd.wp_asg, Dd.wp_if, Dd.wp_raise, Dd.wp_set, Dk.wp_aug, Dk.wp_brk, Dk.p_and127, Dk.p_and255, Dk.p_and1, Dk.p_shr8, Dk.p_shr16, Dk.p_shr24, Dk.p_ashr7, Dk.p_ashr8, Dk.p_aadd, Dk.p_asub, Dd.WO, Dk.eq_ss, Dk.ne_ss, Dk.eq_ii, Dk.ne_ii, Dk.isNot_non, Dk.q_add, Dk.q_addt, Dk.q_sub, Dk.q_mod, Dk.q_fdiv, Dk.q_mulr, Dk.q_mull, Dk.q_neg, Dk.q_lt, Dk.q_le, Dk.q_gt, Dk.q_ge, Dk.q_ix0, Dk.q_ix1, Dk.q_ix2, Dk.q_is_t, Dk.q_is_s, Dk.q_is_lt, Dk.q_is_ll, Dk.q_tru, Dk.q_lent, Dk.q_lenr, Dk.q_int, Dk.q_intb, Dk.q_abs, Dk.q_tupr, Dk.q_lstt, Dk.q_lst, Dk.q_tup, Dk.q_oka, Dk.q_oke, Dk.q_okj, Dk.q_app, Dk.q_ext, Dk.q_nm, Dk.q_tp, Dk.q_sa0, Dk.q_sa1, Dk.q_isn, Dk.q_isb, Dk.q_wipe0, Dk.q_wipe1, d0, d1, d2, d3, lstAt_some l7, nD_len, l7]
            have h2 : w * count = cwv := by rw [hcwv, Nat.mul_comm]
            rw [full] at q3
            exact ⟨by omega, l6, held, filled, acc, _, rfl, g, l7, q1, .inr full, by rw [full]; exact q3, q4, q5, q6, by omega⟩
        · have d1 : ¬ (w : Int) ≤ (filled : Int) := by omega
          simp [Dd.we_ret, Dd.we_bnd, Dd.we_lift, Dd.we_var, Dd.we_args_nil, Dd.we_args_cons, Dd.we_opN, Dd.we_op1, Dd.we_op2, Dd.we_call, Dd.we_tst, Dd.we_tru, Dd.we_notT, Dd.we_andT, Dd.we_orT, Dd.we_notV, Dd.we_andV, Dd.we_orV, Dd.we_ite, Dd.we_chn, Dd.we_mth, Dd.we_slice, Dd.we_intOf, Dd.nx_next, Dd.nx_ret, Dd.nx_ex, Dd.td_next, Dd.td_cont, Dd.td_brk, Dd.td_ret, Dd.td_ex, Dd.nx_brk, Dd.nx_cont, Dd.wp_skip, Dd.wp_seq, Dd.wp_drop, Dd.wp_ret, Dd.wp_asg, Dd.wp_if, Dd.wp_raise, Dd.wp_set, Dk.wp_aug, Dk.wp_brk, Dk.p_and127, Dk.p_and255, Dk.p_and1, Dk.p_shr8, Dk.p_shr16, Dk.p_shr24, Dk.p_ashr7, Dk.p_ashr8, Dk.p_aadd, Dk.p_asub, Dd.WO, Dk.eq_ss, Dk.ne_ss, Dk.eq_ii, Dk.ne_ii, Dk.isNot_non, Dk.q_add, Dk.q_addt, Dk.q_sub, Dk.q_mod, Dk.q_fdiv, Dk.q_mulr, Dk.q_mull, Dk.q_neg, Dk.q_lt, Dk.q_le, Dk.q_gt, Dk.q_ge, Dk.q_ix0, Dk.q_ix1, Dk.q_ix2, Dk.q_is_t, Dk.q_is_s, Dk.q_is_lt, Dk.q_is_ll, Dk.q_tru, Dk.q_lent, Dk.q_lenr, Dk.q_int, Dk.q_intb, Dk.q_abs, Dk.q_tupr, Dk.q_lstt, Dk.q_lst, Dk.q_tup, Dk.q_oka, Dk.q_oke, Dk.q_okj, Dk.q_app, Dk.q_ext, Dk.q_nm, Dk.q_tp, Dk.q_sa0, Dk.q_sa1, Dk.q_isn, Dk.q_isb, Dk.q_wipe0, Dk.q_wipe1, d0, d1]
          exact ⟨by omega, l6, held, filled, acc, _, rfl, g, l7, q1, .inl (by omega), q3, q4, q5, q6, by omega⟩
    · have c1 : ((data.length : Int) < (at_ : Int) + (nb : Int)) := by omega
      simp [startD, f8, Dd.we_ret, Dd.we_bnd, Dd.we_lift, Dd.we_var, Dd.we_args_nil, Dd.we_args_cons, Dd.we_opN, Dd.we_op1, Dd.we_op2, Dd.we_call, Dd.we_tst, Dd.we_tru, Dd.we_notT, Dd.we_andT, Dd.we_orT, Dd.we_notV, Dd.we_andV, Dd.we_orV, Dd.we_ite, Dd.we_chn, Dd.we_mth, Dd.we_slice, Dd.we_intOf, Dd.nx_next, Dd.nx_ret, Dd.nx_ex, Dd.td_next, Dd.td_cont, Dd.td_brk, Dd.td_ret, Dd.td_ex, Dd.nx_brk, Dd.nx_cont, Dd.wp_skip, Dd.wp_seq, Dd.wp_drop, Dd.wp_ret, Dd.wp_asg, Dd.wp_if, Dd.wp_raise, Dd.wp_set, Dk.wp_aug, Dk.wp_brk, Dk.p_and127, Dk.p_and255, Dk.p_and1, Dk.p_shr8, Dk.p_shr16, Dk.p_shr24, Dk.p_ashr7, Dk.p_ashr8, Dk.p_aadd, Dk.p_asub, Dd.WO, Dk.eq_ss, Dk.ne_ss, Dk.eq_ii, Dk.ne_ii, Dk.isNot_non, Dk.q_add, Dk.q_addt, Dk.q_sub, Dk.q_mod, Dk.q_fdiv, Dk.q_mulr, Dk.q_mull, Dk.q_neg, Dk.q_lt, Dk.q_le, Dk.q_gt, Dk.q_ge, Dk.q_ix0, Dk.q_ix1, Dk.q_ix2, Dk.q_is_t, Dk.q_is_s, Dk.q_is_lt, Dk.q_is_ll, Dk.q_tru, Dk.q_lent, Dk.q_lenr, Dk.q_int, Dk.q_intb, Dk.q_abs, Dk.q_tupr, Dk.q_lstt, Dk.q_lst, Dk.q_tup, Dk.q_oka, Dk.q_oke, Dk.q_okj, Dk.q_app, Dk.q_ext, Dk.q_nm, Dk.q_tp, Dk.q_sa0, Dk.q_sa1, Dk.q_isn, Dk.q_isb, Dk.q_wipe0, Dk.q_wipe1, w0, m1, fd, lstAt_some l, nD_len, c1, end_ex, w0]
      exact ⟨Grow.refl h, by omega⟩
end Dk

set_option Elab.async false
set_option linter.all false
set_option maxRecDepth 100000
set_option maxHeartbeats 4000000
namespace Dk
open PySem PySem.Spec PyProof.Rows L2 Dd

/-! ### runs and pieces -/
def eqs (x : Nat) : List Nat → Nat
  | [] => 0
  | y :: ys => if y = x then eqs x ys + 1 else 0
def run : List Nat → Nat
  | [] => 0
  | x :: xs => eqs x xs + 1
theorem eqs_le (x : Nat) (ys : List Nat) : eqs x ys ≤ ys.length := by
  induction ys with
  | nil => exact Nat.le_refl _
  | cons y ys ih =>
    rw [eqs, List.length_cons]
    split <;> omega
theorem run_le (xs : List Nat) : run xs ≤ xs.length := by
  cases xs with
  | nil => exact Nat.le_refl _
  | cons x xs => have := eqs_le x xs; rw [run, List.length_cons]; omega
theorem eqs_get (x : Nat) (ys : List Nat) (j : Nat) (hj : j < eqs x ys) : ys[j]? = some x := by
  induction ys generalizing j with
  | nil => cases hj
  | cons y ys ih =>
    rw [eqs] at hj
    split at hj
    · rename_i hy
      cases j with
      | zero => rw [hy]; rfl
      | succ j => rw [List.getElem?_cons_succ]; exact ih j (by omega)
    · cases hj
theorem eqs_end (x : Nat) (ys : List Nat) : ys[eqs x ys]? ≠ some x := by
  induction ys with
  | nil => intro z; cases z
  | cons y ys ih =>
    rw [eqs]
    split
    · rw [List.getElem?_cons_succ]; exact ih
    · rename_i hy
      intro z
      cases z
      exact hy rfl
theorem run_spec {xs : List Nat} {k : Nat} (hk : k < xs.length) : 1 ≤ run (xs.drop k) ∧ k + run (xs.drop k) ≤ xs.length ∧ (∀ j, j < run (xs.drop k) → xs[k + j]? = some xs[k]) ∧ xs[k + run (xs.drop k)]? ≠ some xs[k] := by
  have dr : xs.drop k = xs[k] :: xs.drop (k + 1) := List.drop_eq_getElem_cons hk
  have le := run_le (xs.drop k)
  rw [List.length_drop] at le
  have rr : run (xs.drop k) = eqs xs[k] (xs.drop (k + 1)) + 1 := by rw [dr]; rfl
  refine ⟨by omega, by omega, fun j hj => ?_, ?_⟩
  · cases j with
    | zero => exact List.getElem?_eq_getElem hk
    | succ j =>
      have := eqs_get _ _ j (by omega : j < eqs xs[k] (xs.drop (k + 1)))
      rw [List.getElem?_drop] at this
      rw [← this]; congr 1; omega
  · rw [rr]
    have := eqs_end xs[k] (xs.drop (k + 1))
    rw [List.getElem?_drop] at this
    intro z
    apply this
    rw [← z]; congr 1; omega
theorem run_drop {xs : List Nat} {j : Nat} (hj : j < run xs) : run (xs.drop j) = run xs - j := by
  induction j generalizing xs with
  | zero => rfl
  | succ j ih =>
    cases xs with
    | nil => cases hj
    | cons x xs =>
      cases xs with
      | nil => rw [run, eqs] at hj; omega
      | cons y ys =>
        rw [List.drop_succ_cons]
        rw [run, eqs] at hj
        split at hj
        · rename_i hy
          have e : run (y :: ys) = eqs x ys + 1 := by rw [run, hy]
          rw [ih (by rw [e]; omega), e, run, eqs, if_pos hy]
          omega
        · omega
def pc (w : Nat) (s : List Nat) : List Nat := numB (2 * s.length + 1) ++ packB w s
def pieces (w : Nat) (s : List Nat) : List Nat := if s.length = 0 then [] else pc w (s.take 32) ++ pieces w (s.drop 32)
termination_by s.length
decreasing_by rw [List.length_drop]; omega
def pe (k : Nat) : List Nat → Nat
  | [] => k
  | y :: ys => if k < 32 ∧ run (y :: ys) < 4 then pe (k + 1) ys else k
theorem pe_ge (k : Nat) (ys : List Nat) : k ≤ pe k ys := by
  induction ys generalizing k with
  | nil => exact Nat.le_refl _
  | cons y ys ih =>
    rw [pe]
    split
    · have := ih (k + 1); omega
    · exact Nat.le_refl _
theorem pe_le (k : Nat) (ys : List Nat) : pe k ys ≤ k + ys.length := by
  induction ys generalizing k with
  | nil => exact Nat.le_refl _
  | cons y ys ih =>
    rw [pe]
    split
    · have := ih (k + 1); rw [List.length_cons]; omega
    · rw [List.length_cons]; omega
theorem pe_le32 (k : Nat) (ys : List Nat) (hk : k ≤ 32) : pe k ys ≤ 32 := by
  induction ys generalizing k with
  | nil => exact hk
  | cons y ys ih =>
    rw [pe]
    split
    · exact ih (k + 1) (by omega)
    · exact hk
def lawL (w : Nat) : List Nat → List Nat
  | [] => []
  | x :: xs => if 4 ≤ run (x :: xs) then numB (2 * run (x :: xs)) ++ numB x ++ lawL w ((x :: xs).drop (run (x :: xs)))
    else pc w ((x :: xs).take (pe 1 xs)) ++ lawL w ((x :: xs).drop (pe 1 xs))
termination_by xs => xs.length
decreasing_by
  · rw [List.length_drop, List.length_cons]; rename_i h; omega
  · have := pe_ge 1 xs; rw [List.length_drop, List.length_cons]; omega
theorem lawL_run {w : Nat} {x : Nat} {xs : List Nat} (h : 4 ≤ run (x :: xs)) : lawL w (x :: xs) = numB (2 * run (x :: xs)) ++ numB x ++ lawL w ((x :: xs).drop (run (x :: xs))) := by rw [lawL, if_pos h]
theorem lawL_piece {w : Nat} {x : Nat} {xs : List Nat} (h : ¬ 4 ≤ run (x :: xs)) : lawL w (x :: xs) = pc w ((x :: xs).take (pe 1 xs)) ++ lawL w ((x :: xs).drop (pe 1 xs)) := by rw [lawL, if_neg h]
theorem lawL_nil (w : Nat) : lawL w [] = [] := by rw [lawL]
/-- nowhere in s four equal numbers begin -/
def St (s t : List Nat) : Prop := ∀ i, i < s.length → run ((s ++ t).drop i) < 4
theorem pe_eq {s t : List Nat} {k : Nat} (hs : St s t) (ht : t = [] ∨ 4 ≤ run t) (hk : k ≤ 32) : pe k (s ++ t) = min 32 (k + s.length) := by
  induction s generalizing k with
  | nil =>
    rw [List.nil_append, List.length_nil, Nat.add_zero, Nat.min_eq_right hk]
    cases t with
    | nil => rfl
    | cons y ys =>
      rcases ht with ht | ht
      · cases ht
      · rw [pe, if_neg (by omega)]
  | cons y s ih =>
    have h0 := hs 0 (Nat.succ_pos _)
    rw [List.drop_zero, List.cons_append] at h0
    rw [List.cons_append, pe, List.length_cons]
    by_cases c : k < 32
    · rw [if_pos ⟨c, h0⟩, ih (fun i hi => hs (i + 1) (Nat.succ_lt_succ hi)) (by omega)]
      congr 1; omega
    · rw [if_neg (fun z => c z.1)]
      omega
theorem lawL_st {w : Nat} (n : Nat) {s t : List Nat} (hn : s.length ≤ n) (hs : St s t) (ht : t = [] ∨ 4 ≤ run t) : lawL w (s ++ t) = pieces w s ++ lawL w t := by
  induction n generalizing s with
  | zero =>
    have : s = [] := List.length_eq_zero_iff.mp (by omega)
    subst this
    rw [pieces, if_pos List.length_nil]; rfl
  | succ n ih =>
    cases s with
    | nil => rw [pieces, if_pos List.length_nil]; rfl
    | cons x s =>
      have h0 := hs 0 (Nat.succ_pos _)
      rw [List.drop_zero, List.cons_append] at h0
      rw [pieces, if_neg (by simp), List.cons_append, lawL_piece (by omega), pe_eq (fun i hi => hs (i + 1) (Nat.succ_lt_succ hi)) ht (by decide), ← List.cons_append]
      have l1 : 1 + s.length = (x :: s).length := by rw [List.length_cons, Nat.add_comm]
      rw [l1]
      have t1 : ((x :: s) ++ t).take (min 32 (x :: s).length) = (x :: s).take 32 := by
        rw [List.take_append_of_le_length (Nat.min_le_right _ _), Nat.min_comm, List.take_eq_take_iff]; omega
      have d1 : ((x :: s) ++ t).drop (min 32 (x :: s).length) = (x :: s).drop 32 ++ t := by
        rw [List.drop_append_of_le_length (Nat.min_le_right _ _)]
        congr 1
        by_cases c : 32 ≤ (x :: s).length
        · rw [Nat.min_eq_left c]
        · rw [Nat.min_eq_right (by omega), List.drop_eq_nil_of_le (Nat.le_refl _), List.drop_eq_nil_of_le (by omega)]
      rw [t1, d1, ih (by rw [List.length_drop]; omega) (fun i hi => ?_), List.append_assoc]
      rw [List.length_drop] at hi
      have := hs (32 + i) (by omega)
      rw [← List.drop_drop, List.drop_append_of_le_length (by omega)] at this
      exact this
theorem numB_len {n k : Nat} (h : n < 128 ^ (k + 1)) : (numB n).length ≤ k + 1 := by
  induction k generalizing n with
  | zero => rw [numB_lt (by omega)]; exact Nat.le_refl _
  | succ k ih =>
    by_cases c : n < 128
    · rw [numB_lt c]; exact Nat.succ_le_succ (Nat.zero_le _)
    · rw [numB_ge c, List.length_cons]
      have := ih (n := n / 128) (by
        rw [Nat.pow_succ] at h
        exact Nat.div_lt_of_lt_mul (by rw [Nat.mul_comm]; exact h))
      omega
theorem packB_len (w : Nat) (s : List Nat) : (packB w s).length = (s.length * w + 7) / 8 := bytesN_len _ _
theorem pc_len {w : Nat} {s : List Nat} (hw : w ≤ 64) (h0 : s ≠ []) (h1 : s.length ≤ 32) : (pc w s).length ≤ 14 * s.length := by
  have := numB_len (n := 2 * s.length + 1) (k := 0) (by omega)
  have h2 : s.length * w ≤ s.length * 64 := Nat.mul_le_mul_left _ hw
  have h3 : 1 ≤ s.length := List.length_pos_iff.mpr h0
  unfold pc
  rw [List.length_append, packB_len]
  omega
theorem pieces_len {w : Nat} (hw : w ≤ 64) (n : Nat) (s : List Nat) (hn : s.length ≤ n) : (pieces w s).length ≤ 14 * s.length := by
  induction n generalizing s with
  | zero =>
    rw [pieces, if_pos (by omega)]; exact Nat.zero_le _
  | succ n ih =>
    rw [pieces]
    split
    · exact Nat.zero_le _
    · rename_i h
      have h1 := pc_len (s := s.take 32) hw (by intro z; rw [List.take_eq_nil_iff] at z; rcases z with z | z; cases z; exact h (by rw [z]; rfl)) (by rw [List.length_take]; omega)
      have h2 := ih (s.drop 32) (by rw [List.length_drop]; omega)
      rw [List.length_take] at h1
      rw [List.length_drop] at h2
      rw [List.length_append]; omega
theorem lawL_len {w : Nat} (hw : w ≤ 64) (n : Nat) (s : List Nat) (hn : s.length ≤ n) (hz : n < 2 ^ 34) (hx : ∀ x ∈ s, x < 2 ^ 35) : (lawL w s).length ≤ 14 * s.length := by
  induction n generalizing s with
  | zero =>
    have : s = [] := List.length_eq_zero_iff.mp (by omega)
    subst this
    rw [lawL_nil]; exact Nat.zero_le _
  | succ n ih =>
    cases s with
    | nil => rw [lawL_nil]; exact Nat.zero_le _
    | cons x xs =>
      have rl := run_le (x :: xs)
      have xl := numB_len (n := x) (k := 4) (by have := hx x List.mem_cons_self; omega)
      by_cases c : 4 ≤ run (x :: xs)
      · rw [lawL_run c]
        have r2 := numB_len (n := 2 * run (x :: xs)) (k := 4) (by omega)
        have i2 := ih ((x :: xs).drop (run (x :: xs))) (by rw [List.length_drop]; omega) (by omega) fun y hy => hx y (List.mem_of_mem_drop hy)
        rw [List.length_drop] at i2
        simp only [List.length_append]; omega
      · rw [lawL_piece c]
        have p1 := pe_ge 1 xs
        have p2 := pe_le 1 xs
        have p3 := pe_le32 1 xs (by decide)
        have l1 : ((x :: xs).take (pe 1 xs)).length = pe 1 xs := by rw [List.length_take, List.length_cons]; omega
        have h1 := pc_len (w := w) (s := (x :: xs).take (pe 1 xs)) hw (by intro z; rw [z] at l1; rw [List.length_nil] at l1; omega) (by omega)
        have i2 := ih ((x :: xs).drop (pe 1 xs)) (by rw [List.length_drop]; omega) (by omega) fun y hy => hx y (List.mem_of_mem_drop hy)
        rw [l1] at h1
        rw [List.length_drop, List.length_cons] at i2
        rw [List.length_append, List.length_cons]; omega
theorem bits_lt (n : Nat) : n < 2 ^ bitsN n := by
  unfold bitsN
  split
  · rename_i h; rw [h]; decide
  · exact Nat.lt_log2_self
end Dk

set_option Elab.async false
set_option linter.all false
set_option maxRecDepth 100000
set_option maxHeartbeats 4000000
namespace Dk
open PySem PySem.Spec PyProof.Rows L2 Dd

theorem for_rng2S {a b' : M D} {t : Tg} {b : MS} {e : DE} {h : DH} {Q : Fl → DE → DH → Prop} (lo n : Nat) (hi : Int) (Inv : Nat → DE → DH → Prop)
    (w : WE a e h (fun d h1 => d = .int (lo : Int) ∧ h1 = h) fun _ _ _ => False) (w2 : WE b' e h (fun d h1 => d = .int hi ∧ h1 = h) fun _ _ _ => False) (hn : (hi - (lo : Int)).toNat = n) (hz : lo ≤ Z) (hz2 : n ≤ Z) (hz3 : 0 ≤ hi) (i0 : Inv 0 e h) (hd : ∀ e h, Inv n e h → Q .next e h)
    (step : ∀ k e h, k < n → Inv k e h → ∃ e1, t.put (.int ((lo + k : Nat) : Int)) h e = some e1 ∧ WP b e1 h (Turned Q (Inv (k + 1)))) : WP (forS (bnd a fun x => bnd b' fun y => lift (rng2 x y)) t b) e h Q := by
  have zz : Z = 16777216 := rfl
  refine wp_for ?_
  rw [we_bnd]
  refine w.mono (fun d h1 x => ?_) fun _ _ _ x => x.elim
  obtain ⟨rfl, rfl⟩ := x
  rw [we_bnd]
  refine w2.mono (fun d h1 x => ?_) fun _ _ _ x => x.elim
  obtain ⟨rfl, rfl⟩ := x
  rw [we_lift, wo_iff]
  have c : (in62 (lo : Int) && in62 hi) = true := by
    rw [Bool.and_eq_true]
    exact ⟨in62_nat hz, below_iff.mpr (by omega)⟩
  have z : rng2 (.int (lo : Int)) (.int hi) h1 = some (.items ((List.range n).map fun k => D.int ((lo : Int) + (k : Nat))), h1) := by
    unfold rng2
    dsimp only
    rw [if_pos c, hn]; rfl
  refine ⟨_, _, z, ?_⟩
  have len : ((List.range n).map fun k => D.int ((lo : Int) + (k : Nat))).length = n := by rw [List.length_map, List.length_range]
  refine ⟨_, rfl, Inv, i0, fun e h i => hd e h (by rw [len] at i; exact i), fun k d e h hk i => ?_⟩
  obtain ⟨rfl, hlt⟩ := rngs_turn hk
  obtain ⟨e1, p, q⟩ := step k e h hlt i
  exact ⟨e1, by rw [← p]; congr 2, q.mono fun f e h z => td_iff.mp z⟩
theorem for_rng3S {a b' c' : M D} {t : Tg} {b : MS} {e : DE} {h : DH} {Q : Fl → DE → DH → Prop} (n st : Nat) (hi : Nat) (Inv : Nat → DE → DH → Prop)
    (w : WE a e h (fun d h1 => d = .int 0 ∧ h1 = h) fun _ _ _ => False) (w2 : WE b' e h (fun d h1 => d = .int (hi : Int) ∧ h1 = h) fun _ _ _ => False) (w3 : WE c' e h (fun d h1 => d = .int (st : Int) ∧ h1 = h) fun _ _ _ => False) (hn : (hi + st - 1) / st = n) (hz : hi ≤ Z) (s0 : 0 < st) (s1 : st ≤ Z) (i0 : Inv 0 e h) (hd : ∀ e h, Inv n e h → Q .next e h)
    (step : ∀ k e h, k < n → Inv k e h → ∃ e1, t.put (.int ((k * st : Nat) : Int)) h e = some e1 ∧ WP b e1 h (Turned Q (Inv (k + 1)))) : WP (forS (bnd a fun x => bnd b' fun y => bnd c' fun z => lift (rng3 x y z)) t b) e h Q := by
  have zz : Z = 16777216 := rfl
  refine wp_for ?_
  rw [we_bnd]
  refine w.mono (fun d h1 x => ?_) fun _ _ _ x => x.elim
  obtain ⟨rfl, rfl⟩ := x
  rw [we_bnd]
  refine w2.mono (fun d h1 x => ?_) fun _ _ _ x => x.elim
  obtain ⟨rfl, rfl⟩ := x
  rw [we_bnd]
  refine w3.mono (fun d h1 x => ?_) fun _ _ _ x => x.elim
  obtain ⟨rfl, rfl⟩ := x
  rw [we_lift, wo_iff]
  have c : (leI 0 0 && leI 0 0 && leI 0 (hi : Int) && in62 (hi : Int) && leI 1 (st : Int) && below (st : Int) 1073741824) = true := by
    simp only [Bool.and_eq_true, leI_eq, decide_eq_true_eq]
    exact ⟨⟨⟨⟨⟨by decide, by decide⟩, by omega⟩, in62_nat hz⟩, by omega⟩, below_iff.mpr (by omega)⟩
  have z : rng3 (.int 0) (.int (hi : Int)) (.int (st : Int)) h1 = some (.items ((List.range n).map fun k => D.int ((k : Nat) * (st : Int))), h1) := by
    unfold rng3
    dsimp only
    rw [if_pos c, show (((hi : Int) + (st : Int) - 1) / (st : Int)).toNat = n from by
      rw [← hn, show (hi : Int) + (st : Int) - 1 = ((hi + st - 1 : Nat) : Int) from by omega]; norm_cast]
    rfl
  refine ⟨_, _, z, ?_⟩
  have len : ((List.range n).map fun k => D.int ((k : Nat) * (st : Int))).length = n := by rw [List.length_map, List.length_range]
  refine ⟨_, rfl, Inv, i0, fun e h i => hd e h (by rw [len] at i; exact i), fun k d e h hk i => ?_⟩
  rw [List.getElem?_map] at hk
  obtain ⟨j, e1, e2⟩ := Dd.map_some hk
  obtain ⟨h1, h2⟩ := List.getElem?_eq_some_iff.mp e1
  rw [List.length_range] at h1
  rw [List.getElem_range] at h2
  subst h2 e2
  obtain ⟨e1, p, q⟩ := step k e h h1 i
  exact ⟨e1, by rw [← p]; congr 2, q.mono fun f e h z => td_iff.mp z⟩
theorem nD_at? {xs : List Nat} {i : Int} {k x : Nat} (hi : i = (k : Int)) (hk : xs[k]? = some x) : L2.atI (nD xs) i = some (.int (x : Int)) := atI_of hi (by unfold nD; rw [List.getElem?_map, hk]; rfl)
theorem w10 (c i : Nat) (xs : List Nat) (k : Nat) (h : DH) (l : lstAt h i = some (nD xs)) (hk : k < xs.length) (hz : xs.length ≤ 999999) : WC (pg.run (c + 1)) 10 [.ref i, .int (k : Int)] h (fun d h' => d = .int ((k + run (xs.drop k) : Nat) : Int) ∧ h' = h) fun _ _ _ => False := by
  refine wc_of (f := f10) rfl e10 rfl ?_
  unfold b10
  obtain ⟨r1, r2, r3, r4⟩ := run_spec hk
  obtain ⟨r, hr⟩ : ∃ r, r = run (xs.drop k) := ⟨_, rfl⟩
  rw [← hr] at r1 r2 r3 r4 ⊢
  obtain ⟨x, hx⟩ : ∃ x, x = xs[k] := ⟨_, rfl⟩
  rw [← hx] at r3 r4
  simp [startD, f10, Dd.we_ret, Dd.we_bnd, Dd.we_lift, Dd.we_var, Dd.we_args_nil, Dd.we_args_cons, Dd.we_opN, Dd.we_op1, Dd.we_op2, Dd.we_call, Dd.we_tst, Dd.we_tru, Dd.we_notT, Dd.we_andT, Dd.we_orT, Dd.we_notV, Dd.we_andV, Dd.we_orV, Dd.we_ite, Dd.we_chn, Dd.we_mth, Dd.we_slice, Dd.we_intOf, Dd.nx_next, Dd.nx_ret, Dd.nx_ex, Dd.td_next, Dd.td_cont, Dd.td_brk, Dd.td_ret, Dd.td_ex, Dd.nx_brk, Dd.nx_cont, Dd.wp_skip, Dd.wp_seq, Dd.wp_drop, Dd.wp_ret, Dd.wp_asg, Dd.wp_if, Dd.wp_raise, Dd.wp_set, Dk.wp_aug, Dk.wp_brk, Dk.p_and127, Dk.p_and255, Dk.p_and1, Dk.p_shr8, Dk.p_shr16, Dk.p_shr24, Dk.p_ashr7, Dk.p_ashr8, Dk.p_aadd, Dk.p_asub, Dd.WO, Dk.eq_ss, Dk.ne_ss, Dk.eq_ii, Dk.ne_ii, Dk.isNot_non, Dk.q_add, Dk.q_addt, Dk.q_sub, Dk.q_mod, Dk.q_fdiv, Dk.q_mulr, Dk.q_mull, Dk.q_neg, Dk.q_lt, Dk.q_le, Dk.q_gt, Dk.q_ge, Dk.q_ix0, Dk.q_ix1, Dk.q_ix2, Dk.q_is_t, Dk.q_is_s, Dk.q_is_lt, Dk.q_is_ll, Dk.q_tru, Dk.q_lent, Dk.q_lenr, Dk.q_int, Dk.q_intb, Dk.q_abs, Dk.q_tupr, Dk.q_lstt, Dk.q_lst, Dk.q_tup, Dk.q_oka, Dk.q_oke, Dk.q_okj, Dk.q_app, Dk.q_ext, Dk.q_nm, Dk.q_tp, Dk.q_sa0, Dk.q_sa1, Dk.q_isn, Dk.q_isb, Dk.q_wipe0, Dk.q_wipe1]
  refine wp_while (N := r - 1) (fun n e hh => ∃ j, n + j = r ∧ 1 ≤ j ∧ e = [some (.ref i), some (.int (k : Int)), some (.int ((k + j : Nat) : Int))] ∧ hh = h) (by omega) ⟨1, by omega, Nat.le_refl _, rfl, rfl⟩ ?_
  rintro n e hh ⟨j, hj, j1, rfl, rfl⟩
  have ax : L2.atI (nD xs) (k : Int) = some (.int (x : Int)) := nD_at? rfl (r3 0 (by omega))
  by_cases c0 : j < r
  · have c1 : (k : Int) + (j : Int) < (xs.length : Int) := by omega
    have ay : L2.atI (nD xs) ((k : Int) + (j : Int)) = some (.int (x : Int)) := nD_at? (k := k + j) (by omega) (r3 j c0)
    simp [Dd.we_ret, Dd.we_bnd, Dd.we_lift, Dd.we_var, Dd.we_args_nil, Dd.we_args_cons, Dd.we_opN, Dd.we_op1, Dd.we_op2, Dd.we_call, Dd.we_tst, Dd.we_tru, Dd.we_notT, Dd.we_andT, Dd.we_orT, Dd.we_notV, Dd.we_andV, Dd.we_orV, Dd.we_ite, Dd.we_chn, Dd.we_mth, Dd.we_slice, Dd.we_intOf, Dd.nx_next, Dd.nx_ret, Dd.nx_ex, Dd.td_next, Dd.td_cont, Dd.td_brk, Dd.td_ret, Dd.td_ex, Dd.nx_brk, Dd.nx_cont, Dd.wp_skip, Dd.wp_seq, Dd.wp_drop, Dd.wp_ret, Dd.wp_asg, Dd.wp_if, Dd.wp_raise, Dd.wp_set, Dk.wp_aug, Dk.wp_brk, Dk.p_and127, Dk.p_and255, Dk.p_and1, Dk.p_shr8, Dk.p_shr16, Dk.p_shr24, Dk.p_ashr7, Dk.p_ashr8, Dk.p_aadd, Dk.p_asub, Dd.WO, Dk.eq_ss, Dk.ne_ss, Dk.eq_ii, Dk.ne_ii, Dk.isNot_non, Dk.q_add, Dk.q_addt, Dk.q_sub, Dk.q_mod, Dk.q_fdiv, Dk.q_mulr, Dk.q_mull, Dk.q_neg, Dk.q_lt, Dk.q_le, Dk.q_gt, Dk.q_ge, Dk.q_ix0, Dk.q_ix1, Dk.q_ix2, Dk.q_is_t, Dk.q_is_s, Dk.q_is_lt, Dk.q_is_ll, Dk.q_tru, Dk.q_lent, Dk.q_lenr, Dk.q_int, Dk.q_intb, Dk.q_abs, Dk.q_tupr, Dk.q_lstt, Dk.q_lst, Dk.q_tup, Dk.q_oka, Dk.q_oke, Dk.q_okj, Dk.q_app, Dk.q_ext, Dk.q_nm, Dk.q_tp, Dk.q_sa0, Dk.q_sa1, Dk.q_isn, Dk.q_isb, Dk.q_wipe0, Dk.q_wipe1, lstAt_some l, nD_len, c1, q_ixr, ax, ay, Dd.pureO, p_aadd]
    exact ⟨n - 1, by omega, j + 1, by omega, by rw [show (k : Int) + (j : Int) + 1 = (k : Int) + ((j + 1 : Nat) : Int) from by omega]; exact ⟨Nat.succ_le_succ (Nat.zero_le _), rfl⟩⟩
  · have jr : j = r := by omega
    subst jr
    by_cases c2 : k + j < xs.length
    · have c1 : (k : Int) + (j : Int) < (xs.length : Int) := by omega
      obtain ⟨y, hy⟩ : ∃ y, xs[k + j]? = some y := ⟨_, List.getElem?_eq_getElem c2⟩
      have ay : L2.atI (nD xs) ((k : Int) + (j : Int)) = some (.int (y : Int)) := nD_at? (k := k + j) (by omega) hy
      have ne : ¬ (y : Int) = (x : Int) := fun z => r4 (by rw [hy]; congr 1; omega)
      have ne2 : ¬ y = x := fun z => ne (by rw [z])
      simp [Dd.we_ret, Dd.we_bnd, Dd.we_lift, Dd.we_var, Dd.we_args_nil, Dd.we_args_cons, Dd.we_opN, Dd.we_op1, Dd.we_op2, Dd.we_call, Dd.we_tst, Dd.we_tru, Dd.we_notT, Dd.we_andT, Dd.we_orT, Dd.we_notV, Dd.we_andV, Dd.we_orV, Dd.we_ite, Dd.we_chn, Dd.we_mth, Dd.we_slice, Dd.we_intOf, Dd.nx_next, Dd.nx_ret, Dd.nx_ex, Dd.td_next, Dd.td_cont, Dd.td_brk, Dd.td_ret, Dd.td_ex, Dd.nx_brk, Dd.nx_cont, Dd.wp_skip, Dd.wp_seq, Dd.wp_drop, Dd.wp_ret, Dd.wp_asg, Dd.wp_if, Dd.wp_raise, Dd.wp_set, Dk.wp_aug, Dk.wp_brk, Dk.p_and127, Dk.p_and255, Dk.p_and1, Dk.p_shr8, Dk.p_shr16, Dk.p_shr24, Dk.p_ashr7, Dk.p_ashr8, Dk.p_aadd, Dk.p_asub, Dd.WO, Dk.eq_ss, Dk.ne_ss, Dk.eq_ii, Dk.ne_ii, Dk.isNot_non, Dk.q_add, Dk.q_addt, Dk.q_sub, Dk.q_mod, Dk.q_fdiv, Dk.q_mulr, Dk.q_mull, Dk.q_neg, Dk.q_lt, Dk.q_le, Dk.q_gt, Dk.q_ge, Dk.q_ix0, Dk.q_ix1, Dk.q_ix2, Dk.q_is_t, Dk.q_is_s, Dk.q_is_lt, Dk.q_is_ll, Dk.q_tru, Dk.q_lent, Dk.q_lenr, Dk.q_int, Dk.q_intb, Dk.q_abs, Dk.q_tupr, Dk.q_lstt, Dk.q_lst, Dk.q_tup, Dk.q_oka, Dk.q_oke, Dk.q_okj, Dk.q_app, Dk.q_ext, Dk.q_nm, Dk.q_tp, Dk.q_sa0, Dk.q_sa1, Dk.q_isn, Dk.q_isb, Dk.q_wipe0, Dk.q_wipe1, lstAt_some l, nD_len, c1, q_ixr, ax, ay, Dd.pureO, ne, ne2, end_ret]
    · have c1 : ¬ (k : Int) + (j : Int) < (xs.length : Int) := by omega
      simp [Dd.we_ret, Dd.we_bnd, Dd.we_lift, Dd.we_var, Dd.we_args_nil, Dd.we_args_cons, Dd.we_opN, Dd.we_op1, Dd.we_op2, Dd.we_call, Dd.we_tst, Dd.we_tru, Dd.we_notT, Dd.we_andT, Dd.we_orT, Dd.we_notV, Dd.we_andV, Dd.we_orV, Dd.we_ite, Dd.we_chn, Dd.we_mth, Dd.we_slice, Dd.we_intOf, Dd.nx_next, Dd.nx_ret, Dd.nx_ex, Dd.td_next, Dd.td_cont, Dd.td_brk, Dd.td_ret, Dd.td_ex, Dd.nx_brk, Dd.nx_cont, Dd.wp_skip, Dd.wp_seq, Dd.wp_drop, Dd.wp_ret, Dd.wp_asg, Dd.wp_if, Dd.wp_raise, Dd.wp_set, Dk.wp_aug, Dk.wp_brk, Dk.p_and127, Dk.p_and255, Dk.p_and1, Dk.p_shr8, Dk.p_shr16, Dk.p_shr24, Dk.p_ashr7, Dk.p_ashr8, Dk.p_aadd, Dk.p_asub, Dd.WO, Dk.eq_ss, Dk.ne_ss, Dk.eq_ii, Dk.ne_ii, Dk.isNot_non, Dk.q_add, Dk.q_addt, Dk.q_sub, Dk.q_mod, Dk.q_fdiv, Dk.q_mulr, Dk.q_mull, Dk.q_neg, Dk.q_lt, Dk.q_le, Dk.q_gt, Dk.q_ge, Dk.q_ix0, Dk.q_ix1, Dk.q_ix2, Dk.q_is_t, Dk.q_is_s, Dk.q_is_lt, Dk.q_is_ll, Dk.q_tru, Dk.q_lent, Dk.q_lenr, Dk.q_int, Dk.q_intb, Dk.q_abs, Dk.q_tupr, Dk.q_lstt, Dk.q_lst, Dk.q_tup, Dk.q_oka, Dk.q_oke, Dk.q_okj, Dk.q_app, Dk.q_ext, Dk.q_nm, Dk.q_tp, Dk.q_sa0, Dk.q_sa1, Dk.q_isn, Dk.q_isb, Dk.q_wipe0, Dk.q_wipe1, lstAt_some l, nD_len, c1, end_ret]
theorem w19 (c i : Nat) (xs : List Nat) (k most : Nat) (h : DH) (l : lstAt h i = some (nD xs)) (hk : k < xs.length) (hz : xs.length ≤ 999999) (hm : most ≤ 999999) : WC (pg.run (c + 1)) 19 [.ref i, .int (k : Int), .int (most : Int)] h (fun d h' => d = .int ((min (run (xs.drop k)) most : Nat) : Int) ∧ h' = h) fun _ _ _ => False := by
  refine wc_of (f := f19) rfl e19 rfl ?_
  unfold b19
  have zz : Z = 16777216 := rfl
  obtain ⟨r1, r2, r3, r4⟩ := run_spec hk
  obtain ⟨r, hr⟩ : ∃ r, r = run (xs.drop k) := ⟨_, rfl⟩
  rw [← hr] at r1 r2 r3 r4 ⊢
  obtain ⟨x, hx⟩ : ∃ x, x = xs[k] := ⟨_, rfl⟩
  rw [← hx] at r3 r4
  simp [startD, f19, Dd.we_ret, Dd.we_bnd, Dd.we_lift, Dd.we_var, Dd.we_args_nil, Dd.we_args_cons, Dd.we_opN, Dd.we_op1, Dd.we_op2, Dd.we_call, Dd.we_tst, Dd.we_tru, Dd.we_notT, Dd.we_andT, Dd.we_orT, Dd.we_notV, Dd.we_andV, Dd.we_orV, Dd.we_ite, Dd.we_chn, Dd.we_mth, Dd.we_slice, Dd.we_intOf, Dd.nx_next, Dd.nx_ret, Dd.nx_ex, Dd.td_next, Dd.td_cont, Dd.td_brk, Dd.td_ret, Dd.td_ex, Dd.nx_brk, Dd.nx_cont, Dd.wp_skip, Dd.wp_seq, Dd.wp_drop, Dd.wp_ret, Dd.wp_asg, Dd.wp_if, Dd.wp_raise, Dd.wp_set, Dk.wp_aug, Dk.wp_brk, Dk.p_and127, Dk.p_and255, Dk.p_and1, Dk.p_shr8, Dk.p_shr16, Dk.p_shr24, Dk.p_ashr7, Dk.p_ashr8, Dk.p_aadd, Dk.p_asub, Dd.WO, Dk.eq_ss, Dk.ne_ss, Dk.eq_ii, Dk.ne_ii, Dk.isNot_non, Dk.q_add, Dk.q_addt, Dk.q_sub, Dk.q_mod, Dk.q_fdiv, Dk.q_mulr, Dk.q_mull, Dk.q_neg, Dk.q_lt, Dk.q_le, Dk.q_gt, Dk.q_ge, Dk.q_ix0, Dk.q_ix1, Dk.q_ix2, Dk.q_is_t, Dk.q_is_s, Dk.q_is_lt, Dk.q_is_ll, Dk.q_tru, Dk.q_lent, Dk.q_lenr, Dk.q_int, Dk.q_intb, Dk.q_abs, Dk.q_tupr, Dk.q_lstt, Dk.q_lst, Dk.q_tup, Dk.q_oka, Dk.q_oke, Dk.q_okj, Dk.q_app, Dk.q_ext, Dk.q_nm, Dk.q_tp, Dk.q_sa0, Dk.q_sa1, Dk.q_isn, Dk.q_isb, Dk.q_wipe0, Dk.q_wipe1]
  have ax : L2.atI (nD xs) (k : Int) = some (.int (x : Int)) := nD_at? rfl (r3 0 (by omega))
  obtain ⟨hi, hhi⟩ : ∃ hi : Int, hi = if (k : Int) + (most : Int) < (xs.length : Int) then (k : Int) + (most : Int) else (xs.length : Int) := ⟨_, rfl⟩
  have mn : ∀ h, bltD .min [.int (xs.length : Int), .int ((k : Int) + (most : Int))] h = some (.int hi, h) := fun h => by rw [hhi]; rfl
  refine for_rng2S k (min most (xs.length - k)) hi (fun j e hh => j ≤ r ∧ ∃ y, e = [some (.ref i), some (.int (k : Int)), some (.int (most : Int)), some (.int (j : Int)), y] ∧ hh = h) ?_ ?_ (by rw [hhi]; split <;> omega) (by omega) (by omega) (by rw [hhi]; split <;> omega) ⟨by omega, _, rfl, rfl⟩ ?_ ?_
  · simp [Dd.we_ret, Dd.we_bnd, Dd.we_lift, Dd.we_var, Dd.we_args_nil, Dd.we_args_cons, Dd.we_opN, Dd.we_op1, Dd.we_op2, Dd.we_call, Dd.we_tst, Dd.we_tru, Dd.we_notT, Dd.we_andT, Dd.we_orT, Dd.we_notV, Dd.we_andV, Dd.we_orV, Dd.we_ite, Dd.we_chn, Dd.we_mth, Dd.we_slice, Dd.we_intOf, Dd.nx_next, Dd.nx_ret, Dd.nx_ex, Dd.td_next, Dd.td_cont, Dd.td_brk, Dd.td_ret, Dd.td_ex, Dd.nx_brk, Dd.nx_cont, Dd.wp_skip, Dd.wp_seq, Dd.wp_drop, Dd.wp_ret, Dd.wp_asg, Dd.wp_if, Dd.wp_raise, Dd.wp_set, Dk.wp_aug, Dk.wp_brk, Dk.p_and127, Dk.p_and255, Dk.p_and1, Dk.p_shr8, Dk.p_shr16, Dk.p_shr24, Dk.p_ashr7, Dk.p_ashr8, Dk.p_aadd, Dk.p_asub, Dd.WO, Dk.eq_ss, Dk.ne_ss, Dk.eq_ii, Dk.ne_ii, Dk.isNot_non, Dk.q_add, Dk.q_addt, Dk.q_sub, Dk.q_mod, Dk.q_fdiv, Dk.q_mulr, Dk.q_mull, Dk.q_neg, Dk.q_lt, Dk.q_le, Dk.q_gt, Dk.q_ge, Dk.q_ix0, Dk.q_ix1, Dk.q_ix2, Dk.q_is_t, Dk.q_is_s, Dk.q_is_lt, Dk.q_is_ll, Dk.q_tru, Dk.q_lent, Dk.q_lenr, Dk.q_int, Dk.q_intb, Dk.q_abs, Dk.q_tupr, Dk.q_lstt, Dk.q_lst, Dk.q_tup, Dk.q_oka, Dk.q_oke, Dk.q_okj, Dk.q_app, Dk.q_ext, Dk.q_nm, Dk.q_tp, Dk.q_sa0, Dk.q_sa1, Dk.q_isn, Dk.q_isb, Dk.q_wipe0, Dk.q_wipe1]
  · simp [Dd.we_ret, Dd.we_bnd, Dd.we_lift, Dd.we_var, Dd.we_args_nil, Dd.we_args_cons, Dd.we_opN, Dd.we_op1, Dd.we_op2, Dd.we_call, Dd.we_tst, Dd.we_tru, Dd.we_notT, Dd.we_andT, Dd.we_orT, Dd.we_notV, Dd.we_andV, Dd.we_orV, Dd.we_ite, Dd.we_chn, Dd.we_mth, Dd.we_slice, Dd.we_intOf, Dd.nx_next, Dd.nx_ret, Dd.nx_ex, Dd.td_next, Dd.td_cont, Dd.td_brk, Dd.td_ret, Dd.td_ex, Dd.nx_brk, Dd.nx_cont, Dd.wp_skip, Dd.wp_seq, Dd.wp_drop, Dd.wp_ret, Dd.wp_asg, Dd.wp_if, Dd.wp_raise, Dd.wp_set, Dk.wp_aug, Dk.wp_brk, Dk.p_and127, Dk.p_and255, Dk.p_and1, Dk.p_shr8, Dk.p_shr16, Dk.p_shr24, Dk.p_ashr7, Dk.p_ashr8, Dk.p_aadd, Dk.p_asub, Dd.WO, Dk.eq_ss, Dk.ne_ss, Dk.eq_ii, Dk.ne_ii, Dk.isNot_non, Dk.q_add, Dk.q_addt, Dk.q_sub, Dk.q_mod, Dk.q_fdiv, Dk.q_mulr, Dk.q_mull, Dk.q_neg, Dk.q_lt, Dk.q_le, Dk.q_gt, Dk.q_ge, Dk.q_ix0, Dk.q_ix1, Dk.q_ix2, Dk.q_is_t, Dk.q_is_s, Dk.q_is_lt, Dk.q_is_ll, Dk.q_tru, Dk.q_lent, Dk.q_lenr, Dk.q_int, Dk.q_intb, Dk.q_abs, Dk.q_tupr, Dk.q_lstt, Dk.q_lst, Dk.q_tup, Dk.q_oka, Dk.q_oke, Dk.q_okj, Dk.q_app, Dk.q_ext, Dk.q_nm, Dk.q_tp, Dk.q_sa0, Dk.q_sa1, Dk.q_isn, Dk.q_isb, Dk.q_wipe0, Dk.q_wipe1, lstAt_some l, nD_len, mn]
  · rintro e hh ⟨hj, y, rfl, rfl⟩
    simp [Dd.we_ret, Dd.we_bnd, Dd.we_lift, Dd.we_var, Dd.we_args_nil, Dd.we_args_cons, Dd.we_opN, Dd.we_op1, Dd.we_op2, Dd.we_call, Dd.we_tst, Dd.we_tru, Dd.we_notT, Dd.we_andT, Dd.we_orT, Dd.we_notV, Dd.we_andV, Dd.we_orV, Dd.we_ite, Dd.we_chn, Dd.we_mth, Dd.we_slice, Dd.we_intOf, Dd.nx_next, Dd.nx_ret, Dd.nx_ex, Dd.td_next, Dd.td_cont, Dd.td_brk, Dd.td_ret, Dd.td_ex, Dd.nx_brk, Dd.nx_cont, Dd.wp_skip, Dd.wp_seq, Dd.wp_drop, Dd.wp_ret, Dd.wp_asg, Dd.wp_if, Dd.wp_raise, Dd.wp_set, Dk.wp_aug, Dk.wp_brk, Dk.p_and127, Dk.p_and255, Dk.p_and1, Dk.p_shr8, Dk.p_shr16, Dk.p_shr24, Dk.p_ashr7, Dk.p_ashr8, Dk.p_aadd, Dk.p_asub, Dd.WO, Dk.eq_ss, Dk.ne_ss, Dk.eq_ii, Dk.ne_ii, Dk.isNot_non, Dk.q_add, Dk.q_addt, Dk.q_sub, Dk.q_mod, Dk.q_fdiv, Dk.q_mulr, Dk.q_mull, Dk.q_neg, Dk.q_lt, Dk.q_le, Dk.q_gt, Dk.q_ge, Dk.q_ix0, Dk.q_ix1, Dk.q_ix2, Dk.q_is_t, Dk.q_is_s, Dk.q_is_lt, Dk.q_is_ll, Dk.q_tru, Dk.q_lent, Dk.q_lenr, Dk.q_int, Dk.q_intb, Dk.q_abs, Dk.q_tupr, Dk.q_lstt, Dk.q_lst, Dk.q_tup, Dk.q_oka, Dk.q_oke, Dk.q_okj, Dk.q_app, Dk.q_ext, Dk.q_nm, Dk.q_tp, Dk.q_sa0, Dk.q_sa1, Dk.q_isn, Dk.q_isb, Dk.q_wipe0, Dk.q_wipe1, end_ret]
    omega
  · rintro j e hh hj ⟨hjr, y, rfl, rfl⟩
    refine ⟨_, rfl, ?_⟩
    by_cases c0 : j < r
    · have ay : L2.atI (nD xs) ((k : Int) + (j : Int)) = some (.int (x : Int)) := nD_at? (k := k + j) (by omega) (r3 j c0)
      simp [Dd.we_ret, Dd.we_bnd, Dd.we_lift, Dd.we_var, Dd.we_args_nil, Dd.we_args_cons, Dd.we_opN, Dd.we_op1, Dd.we_op2, Dd.we_call, Dd.we_tst, Dd.we_tru, Dd.we_notT, Dd.we_andT, Dd.we_orT, Dd.we_notV, Dd.we_andV, Dd.we_orV, Dd.we_ite, Dd.we_chn, Dd.we_mth, Dd.we_slice, Dd.we_intOf, Dd.nx_next, Dd.nx_ret, Dd.nx_ex, Dd.td_next, Dd.td_cont, Dd.td_brk, Dd.td_ret, Dd.td_ex, Dd.nx_brk, Dd.nx_cont, Dd.wp_skip, Dd.wp_seq, Dd.wp_drop, Dd.wp_ret, Dd.wp_asg, Dd.wp_if, Dd.wp_raise, Dd.wp_set, Dk.wp_aug, Dk.wp_brk, Dk.p_and127, Dk.p_and255, Dk.p_and1, Dk.p_shr8, Dk.p_shr16, Dk.p_shr24, Dk.p_ashr7, Dk.p_ashr8, Dk.p_aadd, Dk.p_asub, Dd.WO, Dk.eq_ss, Dk.ne_ss, Dk.eq_ii, Dk.ne_ii, Dk.isNot_non, Dk.q_add, Dk.q_addt, Dk.q_sub, Dk.q_mod, Dk.q_fdiv, Dk.q_mulr, Dk.q_mull, Dk.q_neg, Dk.q_lt, Dk.q_le, Dk.q_gt, Dk.q_ge, Dk.q_ix0, Dk.q_ix1, Dk.q_ix2, Dk.q_is_t, Dk.q_is_s, Dk.q_is_lt, Dk.q_is_ll, Dk.q_tru, Dk.q_lent, Dk.q_lenr, Dk.q_int, Dk.q_intb, Dk.q_abs, Dk.q_tupr, Dk.q_lstt, Dk.q_lst, Dk.q_tup, Dk.q_oka, Dk.q_oke, Dk.q_okj, Dk.q_app, Dk.q_ext, Dk.q_nm, Dk.q_tp, Dk.q_sa0, Dk.q_sa1, Dk.q_isn, Dk.q_isb, Dk.q_wipe0, Dk.q_wipe1, lstAt_some l, q_ixr, ax, ay, Dd.pureO]

      omega
    · have jr : j = r := by omega
      subst jr
      have c2 : k + j < xs.length := by omega
      obtain ⟨y, hy⟩ : ∃ y, xs[k + j]? = some y := ⟨_, List.getElem?_eq_getElem c2⟩
      have ay : L2.atI (nD xs) ((k : Int) + (j : Int)) = some (.int (y : Int)) := nD_at? (k := k + j) (by omega) hy
      have ne : ¬ (y : Int) = (x : Int) := fun z => r4 (by rw [hy]; congr 1; omega)
      have ne2 : ¬ y = x := fun z => ne (by rw [z])
      simp [Dd.we_ret, Dd.we_bnd, Dd.we_lift, Dd.we_var, Dd.we_args_nil, Dd.we_args_cons, Dd.we_opN, Dd.we_op1, Dd.we_op2, Dd.we_call, Dd.we_tst, Dd.we_tru, Dd.we_notT, Dd.we_andT, Dd.we_orT, Dd.we_notV, Dd.we_andV, Dd.we_orV, Dd.we_ite, Dd.we_chn, Dd.we_mth, Dd.we_slice, Dd.we_intOf, Dd.nx_next, Dd.nx_ret, Dd.nx_ex, Dd.td_next, Dd.td_cont, Dd.td_brk, Dd.td_ret, Dd.td_ex, Dd.nx_brk, Dd.nx_cont, Dd.wp_skip, Dd.wp_seq, Dd.wp_drop, Dd.wp_ret, Dd.wp_asg, Dd.wp_if, Dd.wp_raise, Dd.wp_set, Dk.wp_aug, Dk.wp_brk, Dk.p_and127, Dk.p_and255, Dk.p_and1, Dk.p_shr8, Dk.p_shr16, Dk.p_shr24, Dk.p_ashr7, Dk.p_ashr8, Dk.p_aadd, Dk.p_asub, Dd.WO, Dk.eq_ss, Dk.ne_ss, Dk.eq_ii, Dk.ne_ii, Dk.isNot_non, Dk.q_add, Dk.q_addt, Dk.q_sub, Dk.q_mod, Dk.q_fdiv, Dk.q_mulr, Dk.q_mull, Dk.q_neg, Dk.q_lt, Dk.q_le, Dk.q_gt, Dk.q_ge, Dk.q_ix0, Dk.q_ix1, Dk.q_ix2, Dk.q_is_t, Dk.q_is_s, Dk.q_is_lt, Dk.q_is_ll, Dk.q_tru, Dk.q_lent, Dk.q_lenr, Dk.q_int, Dk.q_intb, Dk.q_abs, Dk.q_tupr, Dk.q_lstt, Dk.q_lst, Dk.q_tup, Dk.q_oka, Dk.q_oke, Dk.q_okj, Dk.q_app, Dk.q_ext, Dk.q_nm, Dk.q_tp, Dk.q_sa0, Dk.q_sa1, Dk.q_isn, Dk.q_isb, Dk.q_wipe0, Dk.q_wipe1, lstAt_some l, q_ixr, ax, ay, Dd.pureO, ne, ne2, end_ret]
      omega
end Dk

set_option Elab.async false
set_option linter.all false
set_option maxRecDepth 100000
set_option maxHeartbeats 4000000
namespace Dk
open PySem PySem.Spec PyProof.Rows L2 Dd

theorem q_addr (i j : Nat) (h : DH) : addD (.ref i) (.ref j) h = (match lstAt h i, lstAt h j with
    | some xs, some ys => if xs.length + ys.length ≤ Z then newOb (.lst (xs ++ ys)) h else none
    | _, _ => none) := rfl
/-- put_number at an int that is a number -/
theorem w0i (c n : Nat) (v : Int) (h : DH) (hv : v = (n : Int)) (hn : n < 34359738368) : WC (pg.run (c + 1)) 0 [.int v] h (fun d h' => d = .ref h.length ∧ Grow h h' ∧ lstAt h' h.length = some (nD (numB n))) fun _ _ _ => False := by
  rw [hv]; exact w0 c n h hn
theorem w15i (c n : Nat) (v : Int) (h : DH) (hv : v = (n : Int)) (hn : n < 34359738368) : WC (pg.run (c + 1)) 15 [.int v] h (fun d h' => ∃ i, d = .ref i ∧ h.length ≤ i ∧ Grow h h' ∧ lstAt h' i = some (nD (numB n))) fun _ _ _ => False := by
  rw [hv]; exact w15 c n h hn
theorem cut_over {xs : List Nat} {a b : Nat} (hb : a ≤ xs.length) (h : a ≤ b) : Dd.cutD (nD xs) (some (a : Int)) (some (b : Int)) = nD ((xs.drop a).take (b - a)) := by
  unfold Dd.cutD
  rw [HT.sIx_nat, HT.sIx_nat, nD_len, Nat.min_eq_left hb, nD_drop, nD_take]
  congr 1
  by_cases c : b ≤ xs.length
  · rw [Nat.min_eq_left c]
  · rw [Nat.min_eq_right (by omega), List.take_eq_take_iff, List.length_drop]; omega
def I11 (h : DH) (i w : Nat) (xs : List Nat) (k : Nat) (e : DE) (hh : DH) : Prop := ∃ (acc : List Nat) (x y : Option D), e = [some (.ref i), some (.int (w : Int)), some (.ref h.length), x, y] ∧ Grow h hh ∧ lstAt hh h.length = some (nD acc) ∧ acc ++ pieces w (xs.drop (k * 32)) = pieces w xs
theorem w11 (c i w : Nat) (xs : List Nat) (h : DH) (l : lstAt h i = some (nD xs)) (hx : ∀ x ∈ xs, x < 2 ^ w) (hw : w ≤ 64) (hz : xs.length ≤ 999999) : WC (pg.run (c + 2)) 11 [.ref i, .int (w : Int)] h (fun d h' => d = .ref h.length ∧ Grow h h' ∧ lstAt h' h.length = some (nD (pieces w xs))) fun _ _ _ => False := by
  refine wc_of (f := f11) rfl e11 rfl ?_
  have zz : Z = 16777216 := rfl
  have pl := pieces_len hw _ xs (Nat.le_refl _)
  have hi : i < h.length := (List.getElem?_eq_some_iff.mp (lstAt_some l)).1
  unfold b11
  simp [startD, f11, Dd.we_ret, Dd.we_bnd, Dd.we_lift, Dd.we_var, Dd.we_args_nil, Dd.we_args_cons, Dd.we_opN, Dd.we_op1, Dd.we_op2, Dd.we_call, Dd.we_tst, Dd.we_tru, Dd.we_notT, Dd.we_andT, Dd.we_orT, Dd.we_notV, Dd.we_andV, Dd.we_orV, Dd.we_ite, Dd.we_chn, Dd.we_mth, Dd.we_slice, Dd.we_intOf, Dd.nx_next, Dd.nx_ret, Dd.nx_ex, Dd.td_next, Dd.td_cont, Dd.td_brk, Dd.td_ret, Dd.td_ex, Dd.nx_brk, Dd.nx_cont, Dd.wp_skip, Dd.wp_seq, Dd.wp_drop, Dd.wp_ret, Dd.wp_asg, Dd.wp_if, Dd.wp_raise, Dd.wp_set, Dk.wp_aug, Dk.wp_brk, Dk.p_and127, Dk.p_and255, Dk.p_and1, Dk.p_shr8, Dk.p_shr16, Dk.p_shr24, Dk.p_ashr7, Dk.p_ashr8, Dk.p_aadd, Dk.p_asub, Dd.WO, Dk.eq_ss, Dk.ne_ss, Dk.eq_ii, Dk.ne_ii, Dk.isNot_non, Dk.q_add, Dk.q_addt, Dk.q_sub, Dk.q_mod, Dk.q_fdiv, Dk.q_mulr, Dk.q_mull, Dk.q_neg, Dk.q_lt, Dk.q_le, Dk.q_gt, Dk.q_ge, Dk.q_ix0, Dk.q_ix1, Dk.q_ix2, Dk.q_is_t, Dk.q_is_s, Dk.q_is_lt, Dk.q_is_ll, Dk.q_tru, Dk.q_lent, Dk.q_lenr, Dk.q_int, Dk.q_intb, Dk.q_abs, Dk.q_tupr, Dk.q_lstt, Dk.q_lst, Dk.q_tup, Dk.q_oka, Dk.q_oke, Dk.q_okj, Dk.q_app, Dk.q_ext, Dk.q_nm, Dk.q_tp, Dk.q_sa0, Dk.q_sa1, Dk.q_isn, Dk.q_isb, Dk.q_wipe0, Dk.q_wipe1]
  refine for_rng3S ((xs.length + 32 - 1) / 32) 32 xs.length (I11 h i w xs) ?_ ?_ ?_ rfl (by omega) (by decide) (by omega) ⟨[], _, _, rfl, Grow.one h _, lst_new, by rw [Nat.zero_mul]; rfl⟩ ?_ ?_
  · simp [Dd.we_ret, Dd.we_bnd, Dd.we_lift, Dd.we_var, Dd.we_args_nil, Dd.we_args_cons, Dd.we_opN, Dd.we_op1, Dd.we_op2, Dd.we_call, Dd.we_tst, Dd.we_tru, Dd.we_notT, Dd.we_andT, Dd.we_orT, Dd.we_notV, Dd.we_andV, Dd.we_orV, Dd.we_ite, Dd.we_chn, Dd.we_mth, Dd.we_slice, Dd.we_intOf, Dd.nx_next, Dd.nx_ret, Dd.nx_ex, Dd.td_next, Dd.td_cont, Dd.td_brk, Dd.td_ret, Dd.td_ex, Dd.nx_brk, Dd.nx_cont, Dd.wp_skip, Dd.wp_seq, Dd.wp_drop, Dd.wp_ret, Dd.wp_asg, Dd.wp_if, Dd.wp_raise, Dd.wp_set, Dk.wp_aug, Dk.wp_brk, Dk.p_and127, Dk.p_and255, Dk.p_and1, Dk.p_shr8, Dk.p_shr16, Dk.p_shr24, Dk.p_ashr7, Dk.p_ashr8, Dk.p_aadd, Dk.p_asub, Dd.WO, Dk.eq_ss, Dk.ne_ss, Dk.eq_ii, Dk.ne_ii, Dk.isNot_non, Dk.q_add, Dk.q_addt, Dk.q_sub, Dk.q_mod, Dk.q_fdiv, Dk.q_mulr, Dk.q_mull, Dk.q_neg, Dk.q_lt, Dk.q_le, Dk.q_gt, Dk.q_ge, Dk.q_ix0, Dk.q_ix1, Dk.q_ix2, Dk.q_is_t, Dk.q_is_s, Dk.q_is_lt, Dk.q_is_ll, Dk.q_tru, Dk.q_lent, Dk.q_lenr, Dk.q_int, Dk.q_intb, Dk.q_abs, Dk.q_tupr, Dk.q_lstt, Dk.q_lst, Dk.q_tup, Dk.q_oka, Dk.q_oke, Dk.q_okj, Dk.q_app, Dk.q_ext, Dk.q_nm, Dk.q_tp, Dk.q_sa0, Dk.q_sa1, Dk.q_isn, Dk.q_isb, Dk.q_wipe0, Dk.q_wipe1]
  · simp [Dd.we_ret, Dd.we_bnd, Dd.we_lift, Dd.we_var, Dd.we_args_nil, Dd.we_args_cons, Dd.we_opN, Dd.we_op1, Dd.we_op2, Dd.we_call, Dd.we_tst, Dd.we_tru, Dd.we_notT, Dd.we_andT, Dd.we_orT, Dd.we_notV, Dd.we_andV, Dd.we_orV, Dd.we_ite, Dd.we_chn, Dd.we_mth, Dd.we_slice, Dd.we_intOf, Dd.nx_next, Dd.nx_ret, Dd.nx_ex, Dd.td_next, Dd.td_cont, Dd.td_brk, Dd.td_ret, Dd.td_ex, Dd.nx_brk, Dd.nx_cont, Dd.wp_skip, Dd.wp_seq, Dd.wp_drop, Dd.wp_ret, Dd.wp_asg, Dd.wp_if, Dd.wp_raise, Dd.wp_set, Dk.wp_aug, Dk.wp_brk, Dk.p_and127, Dk.p_and255, Dk.p_and1, Dk.p_shr8, Dk.p_shr16, Dk.p_shr24, Dk.p_ashr7, Dk.p_ashr8, Dk.p_aadd, Dk.p_asub, Dd.WO, Dk.eq_ss, Dk.ne_ss, Dk.eq_ii, Dk.ne_ii, Dk.isNot_non, Dk.q_add, Dk.q_addt, Dk.q_sub, Dk.q_mod, Dk.q_fdiv, Dk.q_mulr, Dk.q_mull, Dk.q_neg, Dk.q_lt, Dk.q_le, Dk.q_gt, Dk.q_ge, Dk.q_ix0, Dk.q_ix1, Dk.q_ix2, Dk.q_is_t, Dk.q_is_s, Dk.q_is_lt, Dk.q_is_ll, Dk.q_tru, Dk.q_lent, Dk.q_lenr, Dk.q_int, Dk.q_intb, Dk.q_abs, Dk.q_tupr, Dk.q_lstt, Dk.q_lst, Dk.q_tup, Dk.q_oka, Dk.q_oke, Dk.q_okj, Dk.q_app, Dk.q_ext, Dk.q_nm, Dk.q_tp, Dk.q_sa0, Dk.q_sa1, Dk.q_isn, Dk.q_isb, Dk.q_wipe0, Dk.q_wipe1, lstAt_some ((Grow.one h (Ob.lst [])).lst l), nD_len]
  · simp [Dd.we_ret, Dd.we_bnd, Dd.we_lift, Dd.we_var, Dd.we_args_nil, Dd.we_args_cons, Dd.we_opN, Dd.we_op1, Dd.we_op2, Dd.we_call, Dd.we_tst, Dd.we_tru, Dd.we_notT, Dd.we_andT, Dd.we_orT, Dd.we_notV, Dd.we_andV, Dd.we_orV, Dd.we_ite, Dd.we_chn, Dd.we_mth, Dd.we_slice, Dd.we_intOf, Dd.nx_next, Dd.nx_ret, Dd.nx_ex, Dd.td_next, Dd.td_cont, Dd.td_brk, Dd.td_ret, Dd.td_ex, Dd.nx_brk, Dd.nx_cont, Dd.wp_skip, Dd.wp_seq, Dd.wp_drop, Dd.wp_ret, Dd.wp_asg, Dd.wp_if, Dd.wp_raise, Dd.wp_set, Dk.wp_aug, Dk.wp_brk, Dk.p_and127, Dk.p_and255, Dk.p_and1, Dk.p_shr8, Dk.p_shr16, Dk.p_shr24, Dk.p_ashr7, Dk.p_ashr8, Dk.p_aadd, Dk.p_asub, Dd.WO, Dk.eq_ss, Dk.ne_ss, Dk.eq_ii, Dk.ne_ii, Dk.isNot_non, Dk.q_add, Dk.q_addt, Dk.q_sub, Dk.q_mod, Dk.q_fdiv, Dk.q_mulr, Dk.q_mull, Dk.q_neg, Dk.q_lt, Dk.q_le, Dk.q_gt, Dk.q_ge, Dk.q_ix0, Dk.q_ix1, Dk.q_ix2, Dk.q_is_t, Dk.q_is_s, Dk.q_is_lt, Dk.q_is_ll, Dk.q_tru, Dk.q_lent, Dk.q_lenr, Dk.q_int, Dk.q_intb, Dk.q_abs, Dk.q_tupr, Dk.q_lstt, Dk.q_lst, Dk.q_tup, Dk.q_oka, Dk.q_oke, Dk.q_okj, Dk.q_app, Dk.q_ext, Dk.q_nm, Dk.q_tp, Dk.q_sa0, Dk.q_sa1, Dk.q_isn, Dk.q_isb, Dk.q_wipe0, Dk.q_wipe1]
  · rintro e hh ⟨acc, x, y, rfl, g, l1, q⟩
    simp [Dd.we_ret, Dd.we_bnd, Dd.we_lift, Dd.we_var, Dd.we_args_nil, Dd.we_args_cons, Dd.we_opN, Dd.we_op1, Dd.we_op2, Dd.we_call, Dd.we_tst, Dd.we_tru, Dd.we_notT, Dd.we_andT, Dd.we_orT, Dd.we_notV, Dd.we_andV, Dd.we_orV, Dd.we_ite, Dd.we_chn, Dd.we_mth, Dd.we_slice, Dd.we_intOf, Dd.nx_next, Dd.nx_ret, Dd.nx_ex, Dd.td_next, Dd.td_cont, Dd.td_brk, Dd.td_ret, Dd.td_ex, Dd.nx_brk, Dd.nx_cont, Dd.wp_skip, Dd.wp_seq, Dd.wp_drop, Dd.wp_ret, Dd.wp_asg, Dd.wp_if, Dd.wp_raise, Dd.wp_set, Dk.wp_aug, Dk.wp_brk, Dk.p_and127, Dk.p_and255, Dk.p_and1, Dk.p_shr8, Dk.p_shr16, Dk.p_shr24, Dk.p_ashr7, Dk.p_ashr8, Dk.p_aadd, Dk.p_asub, Dd.WO, Dk.eq_ss, Dk.ne_ss, Dk.eq_ii, Dk.ne_ii, Dk.isNot_non, Dk.q_add, Dk.q_addt, Dk.q_sub, Dk.q_mod, Dk.q_fdiv, Dk.q_mulr, Dk.q_mull, Dk.q_neg, Dk.q_lt, Dk.q_le, Dk.q_gt, Dk.q_ge, Dk.q_ix0, Dk.q_ix1, Dk.q_ix2, Dk.q_is_t, Dk.q_is_s, Dk.q_is_lt, Dk.q_is_ll, Dk.q_tru, Dk.q_lent, Dk.q_lenr, Dk.q_int, Dk.q_intb, Dk.q_abs, Dk.q_tupr, Dk.q_lstt, Dk.q_lst, Dk.q_tup, Dk.q_oka, Dk.q_oke, Dk.q_okj, Dk.q_app, Dk.q_ext, Dk.q_nm, Dk.q_tp, Dk.q_sa0, Dk.q_sa1, Dk.q_isn, Dk.q_isb, Dk.q_wipe0, Dk.q_wipe1, end_ret]
    refine ⟨g, ?_⟩
    rw [List.drop_eq_nil_of_le (by omega), pieces, if_pos List.length_nil, List.append_nil] at q
    rw [l1, q]
  · rintro k e hh hk ⟨acc, x, y, rfl, g, l1, q⟩
    refine ⟨_, rfl, ?_⟩
    have li := g.lst l
    have lh : h.length < hh.length := (List.getElem?_eq_some_iff.mp (lstAt_some l1)).1
    obtain ⟨s, hs⟩ : ∃ s, s = (xs.drop (k * 32)).take 32 := ⟨_, rfl⟩
    have cut : cutD (nD xs) (some ((k : Int) * 32)) (some ((k : Int) * 32 + 32)) = nD s := by
      rw [show (k : Int) * 32 = ((k * 32 : Nat) : Int) from by omega, show ((k * 32 : Nat) : Int) + 32 = ((k * 32 + 32 : Nat) : Int) from by omega, cut_over (by omega) (by omega), Nat.add_sub_cancel_left, hs]
    have sl : s.length ≤ 32 := by rw [hs, List.length_take]; omega
    have dl : ¬ (xs.drop (k * 32)).length = 0 := by rw [List.length_drop]; omega
    rw [pieces, if_neg dl, ← hs, List.drop_drop] at q
    have ql := congrArg List.length q
    simp only [List.length_append] at ql
    have ls : lstAt (hh ++ [Ob.lst (nD s)]) hh.length = some (nD s) := lst_new
    simp [Dd.we_ret, Dd.we_bnd, Dd.we_lift, Dd.we_var, Dd.we_args_nil, Dd.we_args_cons, Dd.we_opN, Dd.we_op1, Dd.we_op2, Dd.we_call, Dd.we_tst, Dd.we_tru, Dd.we_notT, Dd.we_andT, Dd.we_orT, Dd.we_notV, Dd.we_andV, Dd.we_orV, Dd.we_ite, Dd.we_chn, Dd.we_mth, Dd.we_slice, Dd.we_intOf, Dd.nx_next, Dd.nx_ret, Dd.nx_ex, Dd.td_next, Dd.td_cont, Dd.td_brk, Dd.td_ret, Dd.td_ex, Dd.nx_brk, Dd.nx_cont, Dd.wp_skip, Dd.wp_seq, Dd.wp_drop, Dd.wp_ret, Dd.wp_asg, Dd.wp_if, Dd.wp_raise, Dd.wp_set, Dk.wp_aug, Dk.wp_brk, Dk.p_and127, Dk.p_and255, Dk.p_and1, Dk.p_shr8, Dk.p_shr16, Dk.p_shr24, Dk.p_ashr7, Dk.p_ashr8, Dk.p_aadd, Dk.p_asub, Dd.WO, Dk.eq_ss, Dk.ne_ss, Dk.eq_ii, Dk.ne_ii, Dk.isNot_non, Dk.q_add, Dk.q_addt, Dk.q_sub, Dk.q_mod, Dk.q_fdiv, Dk.q_mulr, Dk.q_mull, Dk.q_neg, Dk.q_lt, Dk.q_le, Dk.q_gt, Dk.q_ge, Dk.q_ix0, Dk.q_ix1, Dk.q_ix2, Dk.q_is_t, Dk.q_is_s, Dk.q_is_lt, Dk.q_is_ll, Dk.q_tru, Dk.q_lent, Dk.q_lenr, Dk.q_int, Dk.q_intb, Dk.q_abs, Dk.q_tupr, Dk.q_lstt, Dk.q_lst, Dk.q_tup, Dk.q_oka, Dk.q_oke, Dk.q_okj, Dk.q_app, Dk.q_ext, Dk.q_nm, Dk.q_tp, Dk.q_sa0, Dk.q_sa1, Dk.q_isn, Dk.q_isb, Dk.q_wipe0, Dk.q_wipe1, q_slr, li, cut, newOb, lstAt_some ls, nD_len, (Grow.one hh (Ob.lst (nD s))).lst l1]
    refine (w0i c (2 * s.length + 1) _ _ (by omega) (by omega)).mono ?_ fun _ _ _ z => z.elim
    rintro d h2 ⟨rfl, g2, l2⟩
    refine (w7 c hh.length w s h2 (g2.lst ls) (fun y hy => hx y (by rw [hs] at hy; exact List.mem_of_mem_drop (List.mem_of_mem_take hy))) hw (by have := Nat.mul_le_mul hw sl; omega)).mono ?_ fun _ _ _ z => z.elim
    rintro d h3 ⟨rfl, g3, l3⟩
    have ga := (Grow.one hh (Ob.lst (nD s))).trans (g2.trans g3)
    have l2' := g3.lst l2
    have pcl : (numB (2 * s.length + 1)).length + (packB w s).length = (pc w s).length := by unfold pc; rw [List.length_append]
    have z1 : (numB (2 * s.length + 1)).length + (packB w s).length ≤ Z := by omega
    have l4 := (Grow.one h3 (Ob.lst (nD (numB (2 * s.length + 1)) ++ nD (packB w s)))).lst (ga.lst l1)
    have l5 : lstAt (h3 ++ [Ob.lst (nD (numB (2 * s.length + 1)) ++ nD (packB w s))]) h3.length = some (nD (numB (2 * s.length + 1)) ++ nD (packB w s)) := lst_new
    have z2 : acc.length + ((numB (2 * s.length + 1)).length + (packB w s).length) ≤ Z := by omega
    have al : List.length (hh ++ [Ob.lst (nD s)]) = hh.length + 1 := List.length_append
    rw [al] at l2' 
    simp [Dd.we_ret, Dd.we_bnd, Dd.we_lift, Dd.we_var, Dd.we_args_nil, Dd.we_args_cons, Dd.we_opN, Dd.we_op1, Dd.we_op2, Dd.we_call, Dd.we_tst, Dd.we_tru, Dd.we_notT, Dd.we_andT, Dd.we_orT, Dd.we_notV, Dd.we_andV, Dd.we_orV, Dd.we_ite, Dd.we_chn, Dd.we_mth, Dd.we_slice, Dd.we_intOf, Dd.nx_next, Dd.nx_ret, Dd.nx_ex, Dd.td_next, Dd.td_cont, Dd.td_brk, Dd.td_ret, Dd.td_ex, Dd.nx_brk, Dd.nx_cont, Dd.wp_skip, Dd.wp_seq, Dd.wp_drop, Dd.wp_ret, Dd.wp_asg, Dd.wp_if, Dd.wp_raise, Dd.wp_set, Dk.wp_aug, Dk.wp_brk, Dk.p_and127, Dk.p_and255, Dk.p_and1, Dk.p_shr8, Dk.p_shr16, Dk.p_shr24, Dk.p_ashr7, Dk.p_ashr8, Dk.p_aadd, Dk.p_asub, Dd.WO, Dk.eq_ss, Dk.ne_ss, Dk.eq_ii, Dk.ne_ii, Dk.isNot_non, Dk.q_add, Dk.q_addt, Dk.q_sub, Dk.q_mod, Dk.q_fdiv, Dk.q_mulr, Dk.q_mull, Dk.q_neg, Dk.q_lt, Dk.q_le, Dk.q_gt, Dk.q_ge, Dk.q_ix0, Dk.q_ix1, Dk.q_ix2, Dk.q_is_t, Dk.q_is_s, Dk.q_is_lt, Dk.q_is_ll, Dk.q_tru, Dk.q_lent, Dk.q_lenr, Dk.q_int, Dk.q_intb, Dk.q_abs, Dk.q_tupr, Dk.q_lstt, Dk.q_lst, Dk.q_tup, Dk.q_oka, Dk.q_oke, Dk.q_okj, Dk.q_app, Dk.q_ext, Dk.q_nm, Dk.q_tp, Dk.q_sa0, Dk.q_sa1, Dk.q_isn, Dk.q_isb, Dk.q_wipe0, Dk.q_wipe1, q_addr, l2', l3, nD_len, z1, newOb, l4, l5, z2]
    refine ⟨acc ++ pc w s, _, _, rfl, (g.trans (ga.trans (Grow.one _ _))).set _ (Nat.le_refl _), ?_, ?_⟩
    · rw [lst_set l4, nD_app, pc, nD_app]
    · rw [← q, List.append_assoc, show (k + 1) * 32 = k * 32 + 32 from by omega]
end Dk

set_option Elab.async false
set_option linter.all false
set_option maxRecDepth 100000
set_option maxHeartbeats 4000000
namespace Dk
open PySem PySem.Spec PyProof.Rows L2 Dd

theorem bits_le {n k : Nat} (h : n < 2 ^ k) : bitsN n ≤ k := by
  unfold bitsN
  split
  · exact Nat.zero_le _
  · rename_i h0
    exact (Nat.log2_lt h0).mpr h
def levB (most : Nat) (xs : List Nat) : List Nat := if bitsN most = 0 then [] else lawL (bitsN most) xs
theorem st_of {xs : List Nat} {a b : Nat} (hab : a ≤ b) (hb : b ≤ xs.length) (h : ∀ j, a ≤ j → j < b → run (xs.drop j) < 4) : St ((xs.drop a).take (b - a)) (xs.drop b) ∧ (xs.drop a).take (b - a) ++ xs.drop b = xs.drop a := by
  have e : (xs.drop a).take (b - a) ++ xs.drop b = xs.drop a := by
    have := List.take_append_drop (b - a) (xs.drop a)
    rw [List.drop_drop, show a + (b - a) = b from by omega] at this
    exact this
  refine ⟨fun j hj => ?_, e⟩
  rw [List.length_take, List.length_drop] at hj
  rw [e, List.drop_drop]
  exact h (a + j) (by omega) (by omega)
theorem lawL_mid {w : Nat} {xs : List Nat} {a b : Nat} (hab : a ≤ b) (hb : b ≤ xs.length) (h : ∀ j, a ≤ j → j < b → run (xs.drop j) < 4) (ht : xs.drop b = [] ∨ 4 ≤ run (xs.drop b)) : lawL w (xs.drop a) = pieces w ((xs.drop a).take (b - a)) ++ lawL w (xs.drop b) := by
  obtain ⟨s1, s2⟩ := st_of hab hb h
  rw [← s2, lawL_st _ (Nat.le_refl _) s1 ht, s2]
def I9 (h : DH) (i w most : Nat) (xs : List Nat) (n : Nat) (e : DE) (hh : DH) : Prop := ∃ (acc : List Nat) (a b : Nat) (x : Option D), e = [some (.ref i), some (.int (most : Int)), some (.int (w : Int)), some (.ref h.length), some (.int (a : Int)), some (.int (b : Int)), x] ∧ Grow h hh ∧ lstAt hh h.length = some (nD acc) ∧ a ≤ b ∧ (b ≤ xs.length ∧ xs.length ≤ b + n) ∧ acc ++ lawL w (xs.drop a) = lawL w xs ∧ ∀ j, a ≤ j → j < b → run (xs.drop j) < 4
theorem w9 (c i most : Nat) (xs : List Nat) (h : DH) (l : lstAt h i = some (nD xs)) (hx : ∀ x ∈ xs, x ≤ most) (hw : most < 34359738368) (hz : xs.length ≤ 999999) : WC (pg.run (c + 3)) 9 [.ref i, .int (most : Int)] h (fun d h' => d = .ref h.length ∧ Grow h h' ∧ lstAt h' h.length = some (nD (levB most xs))) fun _ _ _ => False := by
  refine wc_of (f := f9) rfl e9 rfl ?_
  have zz : Z = 16777216 := rfl
  have hi : i < h.length := (List.getElem?_eq_some_iff.mp (lstAt_some l)).1
  have wle : bitsN most ≤ 64 := Nat.le_trans (bits_le (k := 35) hw) (by decide)
  have pl := lawL_len wle _ xs (Nat.le_refl _) (by omega) fun x m => by have := hx x m; omega
  unfold b9
  unfold levB
  simp [startD, f9, Dd.we_ret, Dd.we_bnd, Dd.we_lift, Dd.we_var, Dd.we_args_nil, Dd.we_args_cons, Dd.we_opN, Dd.we_op1, Dd.we_op2, Dd.we_call, Dd.we_tst, Dd.we_tru, Dd.we_notT, Dd.we_andT, Dd.we_orT, Dd.we_notV, Dd.we_andV, Dd.we_orV, Dd.we_ite, Dd.we_chn, Dd.we_mth, Dd.we_slice, Dd.we_intOf, Dd.nx_next, Dd.nx_ret, Dd.nx_ex, Dd.td_next, Dd.td_cont, Dd.td_brk, Dd.td_ret, Dd.td_ex, Dd.nx_brk, Dd.nx_cont, Dd.wp_skip, Dd.wp_seq, Dd.wp_drop, Dd.wp_ret, Dd.wp_asg, Dd.wp_if, Dd.wp_raise, Dd.wp_set, Dk.wp_aug, Dk.wp_brk, Dk.p_and127, Dk.p_and255, Dk.p_and1, Dk.p_shr8, Dk.p_shr16, Dk.p_shr24, Dk.p_ashr7, Dk.p_ashr8, Dk.p_aadd, Dk.p_asub, Dd.WO, Dk.eq_ss, Dk.ne_ss, Dk.eq_ii, Dk.ne_ii, Dk.isNot_non, Dk.q_add, Dk.q_addt, Dk.q_sub, Dk.q_mod, Dk.q_fdiv, Dk.q_mulr, Dk.q_mull, Dk.q_neg, Dk.q_lt, Dk.q_le, Dk.q_gt, Dk.q_ge, Dk.q_ix0, Dk.q_ix1, Dk.q_ix2, Dk.q_is_t, Dk.q_is_s, Dk.q_is_lt, Dk.q_is_ll, Dk.q_tru, Dk.q_lent, Dk.q_lenr, Dk.q_int, Dk.q_intb, Dk.q_abs, Dk.q_tupr, Dk.q_lstt, Dk.q_lst, Dk.q_tup, Dk.q_oka, Dk.q_oke, Dk.q_okj, Dk.q_app, Dk.q_ext, Dk.q_nm, Dk.q_tp, Dk.q_sa0, Dk.q_sa1, Dk.q_isn, Dk.q_isb, Dk.q_wipe0, Dk.q_wipe1]
  refine (w6 (c + 1) most h).mono ?_ fun _ _ _ z => z.elim
  rintro d h' ⟨rfl, rfl⟩
  by_cases w0 : bitsN most = 0
  · simp [Dd.we_ret, Dd.we_bnd, Dd.we_lift, Dd.we_var, Dd.we_args_nil, Dd.we_args_cons, Dd.we_opN, Dd.we_op1, Dd.we_op2, Dd.we_call, Dd.we_tst, Dd.we_tru, Dd.we_notT, Dd.we_andT, Dd.we_orT, Dd.we_notV, Dd.we_andV, Dd.we_orV, Dd.we_ite, Dd.we_chn, Dd.we_mth, Dd.we_slice, Dd.we_intOf, Dd.nx_next, Dd.nx_ret, Dd.nx_ex, Dd.td_next, Dd.td_cont, Dd.td_brk, Dd.td_ret, Dd.td_ex, Dd.nx_brk, Dd.nx_cont, Dd.wp_skip, Dd.wp_seq, Dd.wp_drop, Dd.wp_ret, Dd.wp_asg, Dd.wp_if, Dd.wp_raise, Dd.wp_set, Dk.wp_aug, Dk.wp_brk, Dk.p_and127, Dk.p_and255, Dk.p_and1, Dk.p_shr8, Dk.p_shr16, Dk.p_shr24, Dk.p_ashr7, Dk.p_ashr8, Dk.p_aadd, Dk.p_asub, Dd.WO, Dk.eq_ss, Dk.ne_ss, Dk.eq_ii, Dk.ne_ii, Dk.isNot_non, Dk.q_add, Dk.q_addt, Dk.q_sub, Dk.q_mod, Dk.q_fdiv, Dk.q_mulr, Dk.q_mull, Dk.q_neg, Dk.q_lt, Dk.q_le, Dk.q_gt, Dk.q_ge, Dk.q_ix0, Dk.q_ix1, Dk.q_ix2, Dk.q_is_t, Dk.q_is_s, Dk.q_is_lt, Dk.q_is_ll, Dk.q_tru, Dk.q_lent, Dk.q_lenr, Dk.q_int, Dk.q_intb, Dk.q_abs, Dk.q_tupr, Dk.q_lstt, Dk.q_lst, Dk.q_tup, Dk.q_oka, Dk.q_oke, Dk.q_okj, Dk.q_app, Dk.q_ext, Dk.q_nm, Dk.q_tp, Dk.q_sa0, Dk.q_sa1, Dk.q_isn, Dk.q_isb, Dk.q_wipe0, Dk.q_wipe1, w0, end_ret]
    exact ⟨Grow.one h' _, lst_new⟩
  simp [Dd.we_ret, Dd.we_bnd, Dd.we_lift, Dd.we_var, Dd.we_args_nil, Dd.we_args_cons, Dd.we_opN, Dd.we_op1, Dd.we_op2, Dd.we_call, Dd.we_tst, Dd.we_tru, Dd.we_notT, Dd.we_andT, Dd.we_orT, Dd.we_notV, Dd.we_andV, Dd.we_orV, Dd.we_ite, Dd.we_chn, Dd.we_mth, Dd.we_slice, Dd.we_intOf, Dd.nx_next, Dd.nx_ret, Dd.nx_ex, Dd.td_next, Dd.td_cont, Dd.td_brk, Dd.td_ret, Dd.td_ex, Dd.nx_brk, Dd.nx_cont, Dd.wp_skip, Dd.wp_seq, Dd.wp_drop, Dd.wp_ret, Dd.wp_asg, Dd.wp_if, Dd.wp_raise, Dd.wp_set, Dk.wp_aug, Dk.wp_brk, Dk.p_and127, Dk.p_and255, Dk.p_and1, Dk.p_shr8, Dk.p_shr16, Dk.p_shr24, Dk.p_ashr7, Dk.p_ashr8, Dk.p_aadd, Dk.p_asub, Dd.WO, Dk.eq_ss, Dk.ne_ss, Dk.eq_ii, Dk.ne_ii, Dk.isNot_non, Dk.q_add, Dk.q_addt, Dk.q_sub, Dk.q_mod, Dk.q_fdiv, Dk.q_mulr, Dk.q_mull, Dk.q_neg, Dk.q_lt, Dk.q_le, Dk.q_gt, Dk.q_ge, Dk.q_ix0, Dk.q_ix1, Dk.q_ix2, Dk.q_is_t, Dk.q_is_s, Dk.q_is_lt, Dk.q_is_ll, Dk.q_tru, Dk.q_lent, Dk.q_lenr, Dk.q_int, Dk.q_intb, Dk.q_abs, Dk.q_tupr, Dk.q_lstt, Dk.q_lst, Dk.q_tup, Dk.q_oka, Dk.q_oke, Dk.q_okj, Dk.q_app, Dk.q_ext, Dk.q_nm, Dk.q_tp, Dk.q_sa0, Dk.q_sa1, Dk.q_isn, Dk.q_isb, Dk.q_wipe0, Dk.q_wipe1, w0]
  obtain ⟨w, hw'⟩ : ∃ w, w = bitsN most := ⟨_, rfl⟩
  rw [← hw'] at wle pl w0 ⊢
  have hx2 : ∀ x ∈ xs, x < 2 ^ w := fun x m => by rw [hw']; exact Nat.lt_of_le_of_lt (hx x m) (bits_lt most)
  refine wp_while (N := xs.length) (I9 h' i w most xs) (by omega) ⟨[], 0, 0, _, rfl, Grow.one h' _, lst_new, Nat.le_refl _, ⟨Nat.zero_le _, by omega⟩, by rw [List.drop_zero]; rfl, fun j _ z => by omega⟩ ?_
  rintro n e hh ⟨acc, a, b, x, rfl, g, l1, hab, hb, q, hs⟩
  have li := g.lst l
  have lh : h'.length < hh.length := (List.getElem?_eq_some_iff.mp (lstAt_some l1)).1
  have ql := congrArg List.length q
  simp only [List.length_append] at ql
  by_cases c0 : b < xs.length
  · have c1 : (b : Int) < (xs.length : Int) := by omega
    simp [Dd.we_ret, Dd.we_bnd, Dd.we_lift, Dd.we_var, Dd.we_args_nil, Dd.we_args_cons, Dd.we_opN, Dd.we_op1, Dd.we_op2, Dd.we_call, Dd.we_tst, Dd.we_tru, Dd.we_notT, Dd.we_andT, Dd.we_orT, Dd.we_notV, Dd.we_andV, Dd.we_orV, Dd.we_ite, Dd.we_chn, Dd.we_mth, Dd.we_slice, Dd.we_intOf, Dd.nx_next, Dd.nx_ret, Dd.nx_ex, Dd.td_next, Dd.td_cont, Dd.td_brk, Dd.td_ret, Dd.td_ex, Dd.nx_brk, Dd.nx_cont, Dd.wp_skip, Dd.wp_seq, Dd.wp_drop, Dd.wp_ret, Dd.wp_asg, Dd.wp_if, Dd.wp_raise, Dd.wp_set, Dk.wp_aug, Dk.wp_brk, Dk.p_and127, Dk.p_and255, Dk.p_and1, Dk.p_shr8, Dk.p_shr16, Dk.p_shr24, Dk.p_ashr7, Dk.p_ashr8, Dk.p_aadd, Dk.p_asub, Dd.WO, Dk.eq_ss, Dk.ne_ss, Dk.eq_ii, Dk.ne_ii, Dk.isNot_non, Dk.q_add, Dk.q_addt, Dk.q_sub, Dk.q_mod, Dk.q_fdiv, Dk.q_mulr, Dk.q_mull, Dk.q_neg, Dk.q_lt, Dk.q_le, Dk.q_gt, Dk.q_ge, Dk.q_ix0, Dk.q_ix1, Dk.q_ix2, Dk.q_is_t, Dk.q_is_s, Dk.q_is_lt, Dk.q_is_ll, Dk.q_tru, Dk.q_lent, Dk.q_lenr, Dk.q_int, Dk.q_intb, Dk.q_abs, Dk.q_tupr, Dk.q_lstt, Dk.q_lst, Dk.q_tup, Dk.q_oka, Dk.q_oke, Dk.q_okj, Dk.q_app, Dk.q_ext, Dk.q_nm, Dk.q_tp, Dk.q_sa0, Dk.q_sa1, Dk.q_isn, Dk.q_isb, Dk.q_wipe0, Dk.q_wipe1, lstAt_some li, nD_len, c0]
    refine ⟨n - 1, by omega, ?_⟩
    refine (w10 (c + 1) i xs b hh li c0 hz).mono ?_ fun _ _ _ z => z.elim
    rintro d h2 ⟨rfl, rfl⟩
    obtain ⟨r1, r2, r3, r4⟩ := run_spec c0
    have rd : ∀ j, j < run (xs.drop b) → run (xs.drop (b + j)) = run (xs.drop b) - j := fun j hj => by rw [← List.drop_drop]; exact run_drop hj
    obtain ⟨y, hy⟩ : ∃ y, y = xs[b] := ⟨_, rfl⟩
    have hy2 : y ≤ most := by rw [hy]; exact hx _ (List.getElem_mem _)
    have dr : xs.drop b = y :: xs.drop (b + 1) := by rw [hy]; exact List.drop_eq_getElem_cons c0
    rw [← hy] at r3 r4
    obtain ⟨r, hr⟩ : ∃ r, r = run (xs.drop b) := ⟨_, rfl⟩
    have ay : L2.atI (nD xs) (b : Int) = some (.int (y : Int)) := nD_at? rfl (by rw [hr.symm] at r3; exact r3 0 (by omega))
    rw [← hr] at r1 r2 r3 r4 rd ⊢
    by_cases c2 : 4 ≤ r
    · have c3 : (4 : Int) ≤ (r : Int) := by omega
      have c4 : (4 : Int) ≤ (b : Int) + (r : Int) - (b : Int) := by omega
      obtain ⟨s, hs'⟩ : ∃ s, s = (xs.drop a).take (b - a) := ⟨_, rfl⟩
      have cut : cutD (nD xs) (some (a : Int)) (some (b : Int)) = nD s := by rw [cut_mid hab (by rw [nD_len]; omega), nD_drop, nD_take, hs']
      have mid := lawL_mid (w := w) hab (Nat.le_of_lt c0) hs (.inr (by omega))
      rw [← hs'] at mid
      have lr : lawL w (xs.drop b) = numB (2 * r) ++ numB y ++ lawL w (xs.drop (b + r)) := by
        have dd : xs.drop (b + r) = (y :: xs.drop (b + 1)).drop r := by rw [← dr, List.drop_drop]
        rw [dr] at hr ⊢
        rw [lawL_run (by omega), ← hr, dd]
      have q' := q
      rw [mid, lr] at q'
      have ql2 := congrArg List.length q'
      simp only [List.length_append] at ql2
      have ls : lstAt (h2 ++ [Ob.lst (nD s)]) h2.length = some (nD s) := lst_new
      have sl : s.length ≤ xs.length := by rw [hs', List.length_take, List.length_drop]; omega
      simp [Dd.we_ret, Dd.we_bnd, Dd.we_lift, Dd.we_var, Dd.we_args_nil, Dd.we_args_cons, Dd.we_opN, Dd.we_op1, Dd.we_op2, Dd.we_call, Dd.we_tst, Dd.we_tru, Dd.we_notT, Dd.we_andT, Dd.we_orT, Dd.we_notV, Dd.we_andV, Dd.we_orV, Dd.we_ite, Dd.we_chn, Dd.we_mth, Dd.we_slice, Dd.we_intOf, Dd.nx_next, Dd.nx_ret, Dd.nx_ex, Dd.td_next, Dd.td_cont, Dd.td_brk, Dd.td_ret, Dd.td_ex, Dd.nx_brk, Dd.nx_cont, Dd.wp_skip, Dd.wp_seq, Dd.wp_drop, Dd.wp_ret, Dd.wp_asg, Dd.wp_if, Dd.wp_raise, Dd.wp_set, Dk.wp_aug, Dk.wp_brk, Dk.p_and127, Dk.p_and255, Dk.p_and1, Dk.p_shr8, Dk.p_shr16, Dk.p_shr24, Dk.p_ashr7, Dk.p_ashr8, Dk.p_aadd, Dk.p_asub, Dd.WO, Dk.eq_ss, Dk.ne_ss, Dk.eq_ii, Dk.ne_ii, Dk.isNot_non, Dk.q_add, Dk.q_addt, Dk.q_sub, Dk.q_mod, Dk.q_fdiv, Dk.q_mulr, Dk.q_mull, Dk.q_neg, Dk.q_lt, Dk.q_le, Dk.q_gt, Dk.q_ge, Dk.q_ix0, Dk.q_ix1, Dk.q_ix2, Dk.q_is_t, Dk.q_is_s, Dk.q_is_lt, Dk.q_is_ll, Dk.q_tru, Dk.q_lent, Dk.q_lenr, Dk.q_int, Dk.q_intb, Dk.q_abs, Dk.q_tupr, Dk.q_lstt, Dk.q_lst, Dk.q_tup, Dk.q_oka, Dk.q_oke, Dk.q_okj, Dk.q_app, Dk.q_ext, Dk.q_nm, Dk.q_tp, Dk.q_sa0, Dk.q_sa1, Dk.q_isn, Dk.q_isb, Dk.q_wipe0, Dk.q_wipe1, c3, c4, lstAt_some li, nD_len, q_slr, li, l1, cut, newOb]
      refine (w11 c h2.length w s _ ls (fun y hy => hx2 y (by rw [hs'] at hy; exact List.mem_of_mem_drop (List.mem_of_mem_take hy))) wle (by omega)).mono ?_ fun _ _ _ z => z.elim
      rintro d h3 ⟨rfl, g3, l3⟩
      have gb := (Grow.one h2 (Ob.lst (nD s))).trans g3
      have l1' := gb.lst l1
      have z1 : acc.length + (pieces w s).length ≤ Z := by omega
      rw [show List.length (h2 ++ [Ob.lst (nD s)]) = h2.length + 1 from List.length_append] at l3
      simp [Dd.we_ret, Dd.we_bnd, Dd.we_lift, Dd.we_var, Dd.we_args_nil, Dd.we_args_cons, Dd.we_opN, Dd.we_op1, Dd.we_op2, Dd.we_call, Dd.we_tst, Dd.we_tru, Dd.we_notT, Dd.we_andT, Dd.we_orT, Dd.we_notV, Dd.we_andV, Dd.we_orV, Dd.we_ite, Dd.we_chn, Dd.we_mth, Dd.we_slice, Dd.we_intOf, Dd.nx_next, Dd.nx_ret, Dd.nx_ex, Dd.td_next, Dd.td_cont, Dd.td_brk, Dd.td_ret, Dd.td_ex, Dd.nx_brk, Dd.nx_cont, Dd.wp_skip, Dd.wp_seq, Dd.wp_drop, Dd.wp_ret, Dd.wp_asg, Dd.wp_if, Dd.wp_raise, Dd.wp_set, Dk.wp_aug, Dk.wp_brk, Dk.p_and127, Dk.p_and255, Dk.p_and1, Dk.p_shr8, Dk.p_shr16, Dk.p_shr24, Dk.p_ashr7, Dk.p_ashr8, Dk.p_aadd, Dk.p_asub, Dd.WO, Dk.eq_ss, Dk.ne_ss, Dk.eq_ii, Dk.ne_ii, Dk.isNot_non, Dk.q_add, Dk.q_addt, Dk.q_sub, Dk.q_mod, Dk.q_fdiv, Dk.q_mulr, Dk.q_mull, Dk.q_neg, Dk.q_lt, Dk.q_le, Dk.q_gt, Dk.q_ge, Dk.q_ix0, Dk.q_ix1, Dk.q_ix2, Dk.q_is_t, Dk.q_is_s, Dk.q_is_lt, Dk.q_is_ll, Dk.q_tru, Dk.q_lent, Dk.q_lenr, Dk.q_int, Dk.q_intb, Dk.q_abs, Dk.q_tupr, Dk.q_lstt, Dk.q_lst, Dk.q_tup, Dk.q_oka, Dk.q_oke, Dk.q_okj, Dk.q_app, Dk.q_ext, Dk.q_nm, Dk.q_tp, Dk.q_sa0, Dk.q_sa1, Dk.q_isn, Dk.q_isb, Dk.q_wipe0, Dk.q_wipe1, l1', l3, nD_len, z1]
      have l6 : lstAt (h3.set h'.length (.lst (nD acc ++ nD (pieces w s)))) h'.length = some (nD (acc ++ pieces w s)) := by rw [lst_set l1', nD_app]
      have g6 : Grow h' (h3.set h'.length (.lst (nD acc ++ nD (pieces w s)))) := (g.trans gb).set _ (Nat.le_refl _)
      obtain ⟨h4, hh4⟩ : ∃ h4, h4 = h3.set h'.length (.lst (nD acc ++ nD (pieces w s))) := ⟨_, rfl⟩
      rw [← hh4] at l6 g6 ⊢
      simp [l6]
      refine (w0i (c + 1) (2 * r) _ _ (by omega) (by omega)).mono ?_ fun _ _ _ z => z.elim
      rintro d h5 ⟨rfl, g7, l7⟩
      simp [Dd.we_ret, Dd.we_bnd, Dd.we_lift, Dd.we_var, Dd.we_args_nil, Dd.we_args_cons, Dd.we_opN, Dd.we_op1, Dd.we_op2, Dd.we_call, Dd.we_tst, Dd.we_tru, Dd.we_notT, Dd.we_andT, Dd.we_orT, Dd.we_notV, Dd.we_andV, Dd.we_orV, Dd.we_ite, Dd.we_chn, Dd.we_mth, Dd.we_slice, Dd.we_intOf, Dd.nx_next, Dd.nx_ret, Dd.nx_ex, Dd.td_next, Dd.td_cont, Dd.td_brk, Dd.td_ret, Dd.td_ex, Dd.nx_brk, Dd.nx_cont, Dd.wp_skip, Dd.wp_seq, Dd.wp_drop, Dd.wp_ret, Dd.wp_asg, Dd.wp_if, Dd.wp_raise, Dd.wp_set, Dk.wp_aug, Dk.wp_brk, Dk.p_and127, Dk.p_and255, Dk.p_and1, Dk.p_shr8, Dk.p_shr16, Dk.p_shr24, Dk.p_ashr7, Dk.p_ashr8, Dk.p_aadd, Dk.p_asub, Dd.WO, Dk.eq_ss, Dk.ne_ss, Dk.eq_ii, Dk.ne_ii, Dk.isNot_non, Dk.q_add, Dk.q_addt, Dk.q_sub, Dk.q_mod, Dk.q_fdiv, Dk.q_mulr, Dk.q_mull, Dk.q_neg, Dk.q_lt, Dk.q_le, Dk.q_gt, Dk.q_ge, Dk.q_ix0, Dk.q_ix1, Dk.q_ix2, Dk.q_is_t, Dk.q_is_s, Dk.q_is_lt, Dk.q_is_ll, Dk.q_tru, Dk.q_lent, Dk.q_lenr, Dk.q_int, Dk.q_intb, Dk.q_abs, Dk.q_tupr, Dk.q_lstt, Dk.q_lst, Dk.q_tup, Dk.q_oka, Dk.q_oke, Dk.q_okj, Dk.q_app, Dk.q_ext, Dk.q_nm, Dk.q_tp, Dk.q_sa0, Dk.q_sa1, Dk.q_isn, Dk.q_isb, Dk.q_wipe0, Dk.q_wipe1, lstAt_some ((g6.trans g7).lst l), nD_len, q_ixr, ay, Dd.pureO]
      refine (w0i (c + 1) y _ _ rfl (by omega)).mono ?_ fun _ _ _ z => z.elim
      rintro d h8 ⟨rfl, g8, l8⟩
      have z2 : (numB (2 * r)).length + (numB y).length ≤ Z := by omega
      have z3 : acc.length + (pieces w s).length + ((numB (2 * r)).length + (numB y).length) ≤ Z := by omega
      have l9 := (Grow.one h8 (Ob.lst (nD (numB (2 * r)) ++ nD (numB y)))).lst ((g7.trans g8).lst l6)
      have l10 : lstAt (h8 ++ [Ob.lst (nD (numB (2 * r)) ++ nD (numB y))]) h8.length = some (nD (numB (2 * r)) ++ nD (numB y)) := lst_new
      simp [Dd.we_ret, Dd.we_bnd, Dd.we_lift, Dd.we_var, Dd.we_args_nil, Dd.we_args_cons, Dd.we_opN, Dd.we_op1, Dd.we_op2, Dd.we_call, Dd.we_tst, Dd.we_tru, Dd.we_notT, Dd.we_andT, Dd.we_orT, Dd.we_notV, Dd.we_andV, Dd.we_orV, Dd.we_ite, Dd.we_chn, Dd.we_mth, Dd.we_slice, Dd.we_intOf, Dd.nx_next, Dd.nx_ret, Dd.nx_ex, Dd.td_next, Dd.td_cont, Dd.td_brk, Dd.td_ret, Dd.td_ex, Dd.nx_brk, Dd.nx_cont, Dd.wp_skip, Dd.wp_seq, Dd.wp_drop, Dd.wp_ret, Dd.wp_asg, Dd.wp_if, Dd.wp_raise, Dd.wp_set, Dk.wp_aug, Dk.wp_brk, Dk.p_and127, Dk.p_and255, Dk.p_and1, Dk.p_shr8, Dk.p_shr16, Dk.p_shr24, Dk.p_ashr7, Dk.p_ashr8, Dk.p_aadd, Dk.p_asub, Dd.WO, Dk.eq_ss, Dk.ne_ss, Dk.eq_ii, Dk.ne_ii, Dk.isNot_non, Dk.q_add, Dk.q_addt, Dk.q_sub, Dk.q_mod, Dk.q_fdiv, Dk.q_mulr, Dk.q_mull, Dk.q_neg, Dk.q_lt, Dk.q_le, Dk.q_gt, Dk.q_ge, Dk.q_ix0, Dk.q_ix1, Dk.q_ix2, Dk.q_is_t, Dk.q_is_s, Dk.q_is_lt, Dk.q_is_ll, Dk.q_tru, Dk.q_lent, Dk.q_lenr, Dk.q_int, Dk.q_intb, Dk.q_abs, Dk.q_tupr, Dk.q_lstt, Dk.q_lst, Dk.q_tup, Dk.q_oka, Dk.q_oke, Dk.q_okj, Dk.q_app, Dk.q_ext, Dk.q_nm, Dk.q_tp, Dk.q_sa0, Dk.q_sa1, Dk.q_isn, Dk.q_isb, Dk.q_wipe0, Dk.q_wipe1, q_addr, g8.lst l7, l8, nD_len, z2, newOb, l9, l10, z3]
      refine ⟨acc ++ pieces w s ++ (numB (2 * r) ++ numB y), b + r, b + r, _, rfl, ((g6.trans (g7.trans g8)).trans (Grow.one _ _)).set _ (Nat.le_refl _), by rw [lst_set l9]; simp only [nD_app], Nat.le_refl _, by omega, by rw [← q']; simp only [List.append_assoc], fun j _ z => by omega⟩
    · have c3 : ¬ (4 : Int) ≤ (r : Int) := by omega
      have c4 : ¬ (4 : Int) ≤ (b : Int) + (r : Int) - (b : Int) := by omega
      simp [Dd.we_ret, Dd.we_bnd, Dd.we_lift, Dd.we_var, Dd.we_args_nil, Dd.we_args_cons, Dd.we_opN, Dd.we_op1, Dd.we_op2, Dd.we_call, Dd.we_tst, Dd.we_tru, Dd.we_notT, Dd.we_andT, Dd.we_orT, Dd.we_notV, Dd.we_andV, Dd.we_orV, Dd.we_ite, Dd.we_chn, Dd.we_mth, Dd.we_slice, Dd.we_intOf, Dd.nx_next, Dd.nx_ret, Dd.nx_ex, Dd.td_next, Dd.td_cont, Dd.td_brk, Dd.td_ret, Dd.td_ex, Dd.nx_brk, Dd.nx_cont, Dd.wp_skip, Dd.wp_seq, Dd.wp_drop, Dd.wp_ret, Dd.wp_asg, Dd.wp_if, Dd.wp_raise, Dd.wp_set, Dk.wp_aug, Dk.wp_brk, Dk.p_and127, Dk.p_and255, Dk.p_and1, Dk.p_shr8, Dk.p_shr16, Dk.p_shr24, Dk.p_ashr7, Dk.p_ashr8, Dk.p_aadd, Dk.p_asub, Dd.WO, Dk.eq_ss, Dk.ne_ss, Dk.eq_ii, Dk.ne_ii, Dk.isNot_non, Dk.q_add, Dk.q_addt, Dk.q_sub, Dk.q_mod, Dk.q_fdiv, Dk.q_mulr, Dk.q_mull, Dk.q_neg, Dk.q_lt, Dk.q_le, Dk.q_gt, Dk.q_ge, Dk.q_ix0, Dk.q_ix1, Dk.q_ix2, Dk.q_is_t, Dk.q_is_s, Dk.q_is_lt, Dk.q_is_ll, Dk.q_tru, Dk.q_lent, Dk.q_lenr, Dk.q_int, Dk.q_intb, Dk.q_abs, Dk.q_tupr, Dk.q_lstt, Dk.q_lst, Dk.q_tup, Dk.q_oka, Dk.q_oke, Dk.q_okj, Dk.q_app, Dk.q_ext, Dk.q_nm, Dk.q_tp, Dk.q_sa0, Dk.q_sa1, Dk.q_isn, Dk.q_isb, Dk.q_wipe0, Dk.q_wipe1, c3, c4]
      refine ⟨acc, a, b + r, _, rfl, g, l1, by omega, by omega, q, fun j j1 j2 => ?_⟩
      by_cases j3 : j < b
      · exact hs j j1 j3
      · have := rd (j - b) (by omega)
        rw [show b + (j - b) = j from by omega] at this
        omega
  · have c1 : ¬ (b : Int) < (xs.length : Int) := by omega
    have bl : b = xs.length := by omega
    obtain ⟨s, hs'⟩ : ∃ s, s = xs.drop a := ⟨_, rfl⟩
    have mid := lawL_mid (w := w) hab (by omega) hs (.inl (List.drop_eq_nil_of_le (by omega)))
    rw [List.take_of_length_le (by rw [List.length_drop]; omega), List.drop_eq_nil_of_le (by omega : xs.length ≤ b), lawL_nil, List.append_nil, ← hs'] at mid
    have q' := q
    rw [← hs', mid] at q'
    have ql2 := congrArg List.length q'
    simp only [List.length_append] at ql2
    have ls : lstAt (hh ++ [Ob.lst (nD s)]) hh.length = some (nD s) := lst_new
    have sl : s.length ≤ xs.length := by rw [hs', List.length_drop]; omega
    have cut : cutD (nD xs) (some (a : Int)) none = nD s := by rw [cut_from (by rw [nD_len]; omega), nD_drop, hs']
    simp [Dd.we_ret, Dd.we_bnd, Dd.we_lift, Dd.we_var, Dd.we_args_nil, Dd.we_args_cons, Dd.we_opN, Dd.we_op1, Dd.we_op2, Dd.we_call, Dd.we_tst, Dd.we_tru, Dd.we_notT, Dd.we_andT, Dd.we_orT, Dd.we_notV, Dd.we_andV, Dd.we_orV, Dd.we_ite, Dd.we_chn, Dd.we_mth, Dd.we_slice, Dd.we_intOf, Dd.nx_next, Dd.nx_ret, Dd.nx_ex, Dd.td_next, Dd.td_cont, Dd.td_brk, Dd.td_ret, Dd.td_ex, Dd.nx_brk, Dd.nx_cont, Dd.wp_skip, Dd.wp_seq, Dd.wp_drop, Dd.wp_ret, Dd.wp_asg, Dd.wp_if, Dd.wp_raise, Dd.wp_set, Dk.wp_aug, Dk.wp_brk, Dk.p_and127, Dk.p_and255, Dk.p_and1, Dk.p_shr8, Dk.p_shr16, Dk.p_shr24, Dk.p_ashr7, Dk.p_ashr8, Dk.p_aadd, Dk.p_asub, Dd.WO, Dk.eq_ss, Dk.ne_ss, Dk.eq_ii, Dk.ne_ii, Dk.isNot_non, Dk.q_add, Dk.q_addt, Dk.q_sub, Dk.q_mod, Dk.q_fdiv, Dk.q_mulr, Dk.q_mull, Dk.q_neg, Dk.q_lt, Dk.q_le, Dk.q_gt, Dk.q_ge, Dk.q_ix0, Dk.q_ix1, Dk.q_ix2, Dk.q_is_t, Dk.q_is_s, Dk.q_is_lt, Dk.q_is_ll, Dk.q_tru, Dk.q_lent, Dk.q_lenr, Dk.q_int, Dk.q_intb, Dk.q_abs, Dk.q_tupr, Dk.q_lstt, Dk.q_lst, Dk.q_tup, Dk.q_oka, Dk.q_oke, Dk.q_okj, Dk.q_app, Dk.q_ext, Dk.q_nm, Dk.q_tp, Dk.q_sa0, Dk.q_sa1, Dk.q_isn, Dk.q_isb, Dk.q_wipe0, Dk.q_wipe1, lstAt_some li, nD_len, c0, q_slr, li, l1, cut, newOb]
    refine (w11 c hh.length w s _ ls (fun y hy => hx2 y (by rw [hs'] at hy; exact List.mem_of_mem_drop hy)) wle (by omega)).mono ?_ fun _ _ _ z => z.elim
    rintro d h3 ⟨rfl, g3, l3⟩
    have gb := (Grow.one hh (Ob.lst (nD s))).trans g3
    have l1' := gb.lst l1
    have z1 : acc.length + (pieces w s).length ≤ Z := by omega
    rw [show List.length (hh ++ [Ob.lst (nD s)]) = hh.length + 1 from List.length_append] at l3
    simp [Dd.we_ret, Dd.we_bnd, Dd.we_lift, Dd.we_var, Dd.we_args_nil, Dd.we_args_cons, Dd.we_opN, Dd.we_op1, Dd.we_op2, Dd.we_call, Dd.we_tst, Dd.we_tru, Dd.we_notT, Dd.we_andT, Dd.we_orT, Dd.we_notV, Dd.we_andV, Dd.we_orV, Dd.we_ite, Dd.we_chn, Dd.we_mth, Dd.we_slice, Dd.we_intOf, Dd.nx_next, Dd.nx_ret, Dd.nx_ex, Dd.td_next, Dd.td_cont, Dd.td_brk, Dd.td_ret, Dd.td_ex, Dd.nx_brk, Dd.nx_cont, Dd.wp_skip, Dd.wp_seq, Dd.wp_drop, Dd.wp_ret, Dd.wp_asg, Dd.wp_if, Dd.wp_raise, Dd.wp_set, Dk.wp_aug, Dk.wp_brk, Dk.p_and127, Dk.p_and255, Dk.p_and1, Dk.p_shr8, Dk.p_shr16, Dk.p_shr24, Dk.p_ashr7, Dk.p_ashr8, Dk.p_aadd, Dk.p_asub, Dd.WO, Dk.eq_ss, Dk.ne_ss, Dk.eq_ii, Dk.ne_ii, Dk.isNot_non, Dk.q_add, Dk.q_addt, Dk.q_sub, Dk.q_mod, Dk.q_fdiv, Dk.q_mulr, Dk.q_mull, Dk.q_neg, Dk.q_lt, Dk.q_le, Dk.q_gt, Dk.q_ge, Dk.q_ix0, Dk.q_ix1, Dk.q_ix2, Dk.q_is_t, Dk.q_is_s, Dk.q_is_lt, Dk.q_is_ll, Dk.q_tru, Dk.q_lent, Dk.q_lenr, Dk.q_int, Dk.q_intb, Dk.q_abs, Dk.q_tupr, Dk.q_lstt, Dk.q_lst, Dk.q_tup, Dk.q_oka, Dk.q_oke, Dk.q_okj, Dk.q_app, Dk.q_ext, Dk.q_nm, Dk.q_tp, Dk.q_sa0, Dk.q_sa1, Dk.q_isn, Dk.q_isb, Dk.q_wipe0, Dk.q_wipe1, l1', l3, nD_len, z1, end_ret]
    exact ⟨(g.trans gb).set _ (Nat.le_refl _), by rw [lst_set l1', ← q', nD_app]⟩
end Dk

set_option Elab.async false
set_option linter.all false
set_option maxRecDepth 100000
set_option maxHeartbeats 4000000
namespace Dk
open PySem PySem.Spec PyProof.Rows L2 Dd

theorem pe_nil (k : Nat) {t : List Nat} (h : t.length = 0) : pe k t = k := by
  rw [List.length_eq_zero_iff.mp h]; rfl
theorem pe_step {k : Nat} {xs : List Nat} {b : Nat} (hb : b < xs.length) : pe k (xs.drop b) = if k < 32 ∧ run (xs.drop b) < 4 then pe (k + 1) (xs.drop (b + 1)) else k := by
  have dr : xs.drop b = xs[b] :: xs.drop (b + 1) := List.drop_eq_getElem_cons hb
  conv => lhs; rw [dr]
  rw [pe, ← dr]
theorem w19i (c i : Nat) (xs : List Nat) (k most : Nat) (h : DH) (kk mm : Int) (hkk : kk = (k : Int)) (hmm : mm = (most : Int)) (l : lstAt h i = some (nD xs)) (hk : k < xs.length) (hz : xs.length ≤ 999999) (hm : most ≤ 999999) : WC (pg.run (c + 1)) 19 [.ref i, .int kk, .int mm] h (fun d h' => d = .int ((min (run (xs.drop k)) most : Nat) : Int) ∧ h' = h) fun _ _ _ => False := by
  rw [hkk, hmm]; exact w19 c i xs k most h l hk hz hm
def I20 (h : DH) (i w most : Nat) (xs : List Nat) (n : Nat) (e : DE) (hh : DH) : Prop := ∃ (acc : List Nat) (f b : Nat) (x y : Option D), e = [some (.ref i), some (.int (most : Int)), some (.int (w : Int)), some (.ref f), some (.int (b : Int)), x, y] ∧ Grow h hh ∧ h.length ≤ f ∧ lstAt hh f = some (nD acc) ∧ (b ≤ xs.length ∧ xs.length ≤ b + n) ∧ acc ++ lawL w (xs.drop b) = lawL w xs ∧ (w = 0 → acc = [])
def J20 (hs : DH) (i w most f b : Nat) (x : Option D) (xs : List Nat) (n : Nat) (e : DE) (hh : DH) : Prop := ∃ (j : Nat), e = [some (.ref i), some (.int (most : Int)), some (.int (w : Int)), some (.ref f), some (.int (b : Int)), x, some (.int ((b + j : Nat) : Int))] ∧ hh = hs ∧ 1 ≤ j ∧ j + n = 32 ∧ b + j ≤ xs.length ∧ pe j (xs.drop (b + j)) = pe 1 (xs.drop (b + 1))
theorem w20_end (c i w f b j : Nat) (xs acc : List Nat) (hh : DH) (Q : D → DH → Prop) (X1 X2 : Nat → D → DH → Prop) (li : lstAt hh i = some (nD xs)) (l1 : lstAt hh f = some (nD acc)) (hx : ∀ x ∈ xs, x < 2 ^ w) (hw : w ≤ 64) (hj : 1 ≤ j ∧ j ≤ 32) (hb : b + j ≤ xs.length) (hz : acc.length + (pc w ((xs.drop b).take j)).length ≤ Z)
    (fin : ∀ p h5, hh.length ≤ p → Grow hh h5 → lstAt h5 p = some (nD (acc ++ pc w ((xs.drop b).take j))) → Q (.ref p) h5) :
    WC (pg.run (c + 1)) 15 [.int (2 * ((b : Int) + (j : Int) - (b : Int)) + 1)] hh (fun y h2 => WO (addD (.ref f) y) h2 fun x h1 =>
      WO (sliceD (.ref i) (some (b : Int)) (some ((b : Int) + (j : Int)))) h1 fun x1 h1 => WC (pg.run (c + 1)) 18 [x1, .int (w : Int)] h1 (fun y h2 => WO (addD x y) h2 Q) X1) X2 := by
  have zz : Z = 16777216 := rfl
  obtain ⟨s, hs⟩ : ∃ s, s = (xs.drop b).take j := ⟨_, rfl⟩
  rw [← hs] at fin hz
  have sl : s.length = j := by rw [hs, List.length_take, List.length_drop]; omega
  have cut : cutD (nD xs) (some (b : Int)) (some ((b : Int) + (j : Int))) = nD s := by
    rw [show (b : Int) + (j : Int) = ((b + j : Nat) : Int) from by omega, cut_mid (by omega) (by rw [nD_len]; exact hb), nD_drop, nD_take, hs, Nat.add_sub_cancel_left]
  refine (w15i c (2 * s.length + 1) _ _ (by omega) (by omega)).mono ?_ fun _ _ _ z => z.elim
  rintro d h3 ⟨p, rfl, hp, g3, l3⟩
  have pcl : (numB (2 * s.length + 1)).length + (packB w s).length = (pc w s).length := by unfold pc; rw [List.length_append]
  have z1 : acc.length + (numB (2 * s.length + 1)).length ≤ Z := by omega
  obtain ⟨a1, ha1⟩ : ∃ a1, a1 = acc ++ numB (2 * s.length + 1) := ⟨_, rfl⟩
  have al : a1.length = acc.length + (numB (2 * s.length + 1)).length := by rw [ha1, List.length_append]
  have e1 : addD (.ref f) (.ref p) h3 = some (.ref h3.length, h3 ++ [.lst (nD a1)]) := by
    rw [q_addr, g3.lst l1, l3]
    dsimp only
    rw [nD_len, nD_len, if_pos z1, ← nD_app, ha1]; rfl
  refine wo_of e1 ?_
  have g4 := g3.trans (Grow.one h3 (Ob.lst (nD a1)))
  have e2 : sliceD (.ref i) (some (b : Int)) (some ((b : Int) + (j : Int))) (h3 ++ [Ob.lst (nD a1)]) = some (.ref (h3 ++ [Ob.lst (nD a1)]).length, h3 ++ [Ob.lst (nD a1)] ++ [.lst (nD s)]) := by
    rw [q_slr, g4.lst li]
    dsimp only
    rw [cut]; rfl
  refine wo_of e2 ?_
  have g5 := g4.trans (Grow.one _ (Ob.lst (nD s)))
  have l5 : lstAt (h3 ++ [Ob.lst (nD a1)] ++ [Ob.lst (nD s)]) h3.length = some (nD a1) := (Grow.one _ _).lst lst_new
  refine (w18 c (h3 ++ [Ob.lst (nD a1)]).length w s _ lst_new (fun y hy => hx y (by rw [hs] at hy; exact List.mem_of_mem_drop (List.mem_of_mem_take hy))) hw (by have := Nat.mul_le_mul hw (show s.length ≤ 32 by omega); omega)).mono ?_ fun _ _ _ z => z.elim
  rintro d h6 ⟨p2, rfl, hp2, g6, l6⟩
  have z2 : a1.length + (packB w s).length ≤ Z := by omega
  have e3 : addD (.ref h3.length) (.ref p2) h6 = some (.ref h6.length, h6 ++ [.lst (nD (a1 ++ packB w s))]) := by
    rw [q_addr, g6.lst l5, l6]
    dsimp only
    rw [nD_len, nD_len, if_pos z2, ← nD_app]; rfl
  refine wo_of e3 ?_
  refine fin _ _ (by have := (g5.trans g6).le; omega) ((g5.trans g6).trans (Grow.one _ _)) ?_
  rw [ha1, List.append_assoc, show numB (2 * s.length + 1) ++ packB w s = pc w s from rfl]
  exact lst_new
theorem w20 (c i most : Nat) (xs : List Nat) (h : DH) (l : lstAt h i = some (nD xs)) (hx : ∀ x ∈ xs, x ≤ most) (hw : most < 34359738368) (hz : xs.length ≤ 999999) : WC (pg.run (c + 2)) 20 [.ref i, .int (most : Int)] h (fun d h' => ∃ f, d = .ref f ∧ h.length ≤ f ∧ Grow h h' ∧ lstAt h' f = some (nD (levB most xs))) fun _ _ _ => False := by
  refine wc_of (f := f20) rfl e20 rfl ?_
  have zz : Z = 16777216 := rfl
  have hi : i < h.length := (List.getElem?_eq_some_iff.mp (lstAt_some l)).1
  have wle : bitsN most ≤ 64 := Nat.le_trans (bits_le (k := 35) hw) (by decide)
  have pl := lawL_len wle _ xs (Nat.le_refl _) (by omega) fun x m => by have := hx x m; omega
  unfold b20
  unfold levB
  simp [startD, f20, Dd.we_ret, Dd.we_bnd, Dd.we_lift, Dd.we_var, Dd.we_args_nil, Dd.we_args_cons, Dd.we_opN, Dd.we_op1, Dd.we_op2, Dd.we_call, Dd.we_tst, Dd.we_tru, Dd.we_notT, Dd.we_andT, Dd.we_orT, Dd.we_notV, Dd.we_andV, Dd.we_orV, Dd.we_ite, Dd.we_chn, Dd.we_mth, Dd.we_slice, Dd.we_intOf, Dd.nx_next, Dd.nx_ret, Dd.nx_ex, Dd.td_next, Dd.td_cont, Dd.td_brk, Dd.td_ret, Dd.td_ex, Dd.nx_brk, Dd.nx_cont, Dd.wp_skip, Dd.wp_seq, Dd.wp_drop, Dd.wp_ret, Dd.wp_asg, Dd.wp_if, Dd.wp_raise, Dd.wp_set, Dk.wp_aug, Dk.wp_brk, Dk.p_and127, Dk.p_and255, Dk.p_and1, Dk.p_shr8, Dk.p_shr16, Dk.p_shr24, Dk.p_ashr7, Dk.p_ashr8, Dk.p_aadd, Dk.p_asub, Dd.WO, Dk.eq_ss, Dk.ne_ss, Dk.eq_ii, Dk.ne_ii, Dk.isNot_non, Dk.q_add, Dk.q_addt, Dk.q_sub, Dk.q_mod, Dk.q_fdiv, Dk.q_mulr, Dk.q_mull, Dk.q_neg, Dk.q_lt, Dk.q_le, Dk.q_gt, Dk.q_ge, Dk.q_ix0, Dk.q_ix1, Dk.q_ix2, Dk.q_is_t, Dk.q_is_s, Dk.q_is_lt, Dk.q_is_ll, Dk.q_tru, Dk.q_lent, Dk.q_lenr, Dk.q_int, Dk.q_intb, Dk.q_abs, Dk.q_tupr, Dk.q_lstt, Dk.q_lst, Dk.q_tup, Dk.q_oka, Dk.q_oke, Dk.q_okj, Dk.q_app, Dk.q_ext, Dk.q_nm, Dk.q_tp, Dk.q_sa0, Dk.q_sa1, Dk.q_isn, Dk.q_isb, Dk.q_wipe0, Dk.q_wipe1]
  refine (w17 c most h (by omega)).mono ?_ fun _ _ _ z => z.elim
  rintro d h' ⟨rfl, rfl⟩
  obtain ⟨w, hw'⟩ : ∃ w, w = bitsN most := ⟨_, rfl⟩
  rw [← hw'] at wle pl ⊢
  have hx2 : ∀ x ∈ xs, x < 2 ^ w := fun x m => by rw [hw']; exact Nat.lt_of_le_of_lt (hx x m) (bits_lt most)
  refine wp_while (N := xs.length) (I20 h' i w most xs) (by omega) ⟨[], h'.length, 0, _, _, rfl, Grow.one h' _, Nat.le_refl _, lst_new, ⟨Nat.zero_le _, by omega⟩, by rw [List.drop_zero]; rfl, fun _ => rfl⟩ ?_
  rintro n e hh ⟨acc, f, b, x, y, rfl, g, hf, l1, hb, q, qw⟩
  have li := g.lst l
  have ql := congrArg List.length q
  simp only [List.length_append] at ql
  by_cases w0 : w = 0
  · subst w0
    have qw := qw rfl
    subst qw
    by_cases c0 : b < xs.length
    · simp [Dd.we_ret, Dd.we_bnd, Dd.we_lift, Dd.we_var, Dd.we_args_nil, Dd.we_args_cons, Dd.we_opN, Dd.we_op1, Dd.we_op2, Dd.we_call, Dd.we_tst, Dd.we_tru, Dd.we_notT, Dd.we_andT, Dd.we_orT, Dd.we_notV, Dd.we_andV, Dd.we_orV, Dd.we_ite, Dd.we_chn, Dd.we_mth, Dd.we_slice, Dd.we_intOf, Dd.nx_next, Dd.nx_ret, Dd.nx_ex, Dd.td_next, Dd.td_cont, Dd.td_brk, Dd.td_ret, Dd.td_ex, Dd.nx_brk, Dd.nx_cont, Dd.wp_skip, Dd.wp_seq, Dd.wp_drop, Dd.wp_ret, Dd.wp_asg, Dd.wp_if, Dd.wp_raise, Dd.wp_set, Dk.wp_aug, Dk.wp_brk, Dk.p_and127, Dk.p_and255, Dk.p_and1, Dk.p_shr8, Dk.p_shr16, Dk.p_shr24, Dk.p_ashr7, Dk.p_ashr8, Dk.p_aadd, Dk.p_asub, Dd.WO, Dk.eq_ss, Dk.ne_ss, Dk.eq_ii, Dk.ne_ii, Dk.isNot_non, Dk.q_add, Dk.q_addt, Dk.q_sub, Dk.q_mod, Dk.q_fdiv, Dk.q_mulr, Dk.q_mull, Dk.q_neg, Dk.q_lt, Dk.q_le, Dk.q_gt, Dk.q_ge, Dk.q_ix0, Dk.q_ix1, Dk.q_ix2, Dk.q_is_t, Dk.q_is_s, Dk.q_is_lt, Dk.q_is_ll, Dk.q_tru, Dk.q_lent, Dk.q_lenr, Dk.q_int, Dk.q_intb, Dk.q_abs, Dk.q_tupr, Dk.q_lstt, Dk.q_lst, Dk.q_tup, Dk.q_oka, Dk.q_oke, Dk.q_okj, Dk.q_app, Dk.q_ext, Dk.q_nm, Dk.q_tp, Dk.q_sa0, Dk.q_sa1, Dk.q_isn, Dk.q_isb, Dk.q_wipe0, Dk.q_wipe1, lstAt_some li, nD_len, c0, end_ret]
      exact ⟨hf, g, l1⟩
    · simp [Dd.we_ret, Dd.we_bnd, Dd.we_lift, Dd.we_var, Dd.we_args_nil, Dd.we_args_cons, Dd.we_opN, Dd.we_op1, Dd.we_op2, Dd.we_call, Dd.we_tst, Dd.we_tru, Dd.we_notT, Dd.we_andT, Dd.we_orT, Dd.we_notV, Dd.we_andV, Dd.we_orV, Dd.we_ite, Dd.we_chn, Dd.we_mth, Dd.we_slice, Dd.we_intOf, Dd.nx_next, Dd.nx_ret, Dd.nx_ex, Dd.td_next, Dd.td_cont, Dd.td_brk, Dd.td_ret, Dd.td_ex, Dd.nx_brk, Dd.nx_cont, Dd.wp_skip, Dd.wp_seq, Dd.wp_drop, Dd.wp_ret, Dd.wp_asg, Dd.wp_if, Dd.wp_raise, Dd.wp_set, Dk.wp_aug, Dk.wp_brk, Dk.p_and127, Dk.p_and255, Dk.p_and1, Dk.p_shr8, Dk.p_shr16, Dk.p_shr24, Dk.p_ashr7, Dk.p_ashr8, Dk.p_aadd, Dk.p_asub, Dd.WO, Dk.eq_ss, Dk.ne_ss, Dk.eq_ii, Dk.ne_ii, Dk.isNot_non, Dk.q_add, Dk.q_addt, Dk.q_sub, Dk.q_mod, Dk.q_fdiv, Dk.q_mulr, Dk.q_mull, Dk.q_neg, Dk.q_lt, Dk.q_le, Dk.q_gt, Dk.q_ge, Dk.q_ix0, Dk.q_ix1, Dk.q_ix2, Dk.q_is_t, Dk.q_is_s, Dk.q_is_lt, Dk.q_is_ll, Dk.q_tru, Dk.q_lent, Dk.q_lenr, Dk.q_int, Dk.q_intb, Dk.q_abs, Dk.q_tupr, Dk.q_lstt, Dk.q_lst, Dk.q_tup, Dk.q_oka, Dk.q_oke, Dk.q_okj, Dk.q_app, Dk.q_ext, Dk.q_nm, Dk.q_tp, Dk.q_sa0, Dk.q_sa1, Dk.q_isn, Dk.q_isb, Dk.q_wipe0, Dk.q_wipe1, lstAt_some li, nD_len, c0, end_ret]
      exact ⟨hf, g, l1⟩
  have w1 : 0 < w := by omega
  by_cases c0 : b < xs.length
  · have c1 : (b : Int) < (xs.length : Int) := by omega
    simp [Dd.we_ret, Dd.we_bnd, Dd.we_lift, Dd.we_var, Dd.we_args_nil, Dd.we_args_cons, Dd.we_opN, Dd.we_op1, Dd.we_op2, Dd.we_call, Dd.we_tst, Dd.we_tru, Dd.we_notT, Dd.we_andT, Dd.we_orT, Dd.we_notV, Dd.we_andV, Dd.we_orV, Dd.we_ite, Dd.we_chn, Dd.we_mth, Dd.we_slice, Dd.we_intOf, Dd.nx_next, Dd.nx_ret, Dd.nx_ex, Dd.td_next, Dd.td_cont, Dd.td_brk, Dd.td_ret, Dd.td_ex, Dd.nx_brk, Dd.nx_cont, Dd.wp_skip, Dd.wp_seq, Dd.wp_drop, Dd.wp_ret, Dd.wp_asg, Dd.wp_if, Dd.wp_raise, Dd.wp_set, Dk.wp_aug, Dk.wp_brk, Dk.p_and127, Dk.p_and255, Dk.p_and1, Dk.p_shr8, Dk.p_shr16, Dk.p_shr24, Dk.p_ashr7, Dk.p_ashr8, Dk.p_aadd, Dk.p_asub, Dd.WO, Dk.eq_ss, Dk.ne_ss, Dk.eq_ii, Dk.ne_ii, Dk.isNot_non, Dk.q_add, Dk.q_addt, Dk.q_sub, Dk.q_mod, Dk.q_fdiv, Dk.q_mulr, Dk.q_mull, Dk.q_neg, Dk.q_lt, Dk.q_le, Dk.q_gt, Dk.q_ge, Dk.q_ix0, Dk.q_ix1, Dk.q_ix2, Dk.q_is_t, Dk.q_is_s, Dk.q_is_lt, Dk.q_is_ll, Dk.q_tru, Dk.q_lent, Dk.q_lenr, Dk.q_int, Dk.q_intb, Dk.q_abs, Dk.q_tupr, Dk.q_lstt, Dk.q_lst, Dk.q_tup, Dk.q_oka, Dk.q_oke, Dk.q_okj, Dk.q_app, Dk.q_ext, Dk.q_nm, Dk.q_tp, Dk.q_sa0, Dk.q_sa1, Dk.q_isn, Dk.q_isb, Dk.q_wipe0, Dk.q_wipe1, lstAt_some li, nD_len, c0, c1, w1]
    refine ⟨n - 1, by omega, ?_⟩
    refine (w19 c i xs b xs.length hh li c0 hz hz).mono ?_ fun _ _ _ z => z.elim
    rintro d h2 ⟨rfl, rfl⟩
    obtain ⟨r1, r2, r3, r4⟩ := run_spec c0
    obtain ⟨y, hy⟩ : ∃ y, y = xs[b] := ⟨_, rfl⟩
    have hy2 : y ≤ most := by rw [hy]; exact hx _ (List.getElem_mem _)
    have dr : xs.drop b = y :: xs.drop (b + 1) := by rw [hy]; exact List.drop_eq_getElem_cons c0
    rw [← hy] at r3 r4
    obtain ⟨r, hr⟩ : ∃ r, r = run (xs.drop b) := ⟨_, rfl⟩
    have ay : L2.atI (nD xs) (b : Int) = some (.int (y : Int)) := nD_at? rfl (by rw [hr.symm] at r3; exact r3 0 (by omega))
    rw [← hr] at r1 r2 r3 r4 ⊢
    rw [show min r xs.length = r from by omega]
    by_cases c2 : 4 ≤ r
    · have c3 : (4 : Int) ≤ (r : Int) := by omega
      have lr : lawL w (xs.drop b) = numB (2 * r) ++ numB y ++ lawL w (xs.drop (b + r)) := by
        have dd : xs.drop (b + r) = (y :: xs.drop (b + 1)).drop r := by rw [← dr, List.drop_drop]
        rw [dr] at hr ⊢
        rw [lawL_run (by omega), ← hr, dd]
      rw [lr] at q
      have ql2 := congrArg List.length q
      simp only [List.length_append] at ql2
      simp [Dd.we_ret, Dd.we_bnd, Dd.we_lift, Dd.we_var, Dd.we_args_nil, Dd.we_args_cons, Dd.we_opN, Dd.we_op1, Dd.we_op2, Dd.we_call, Dd.we_tst, Dd.we_tru, Dd.we_notT, Dd.we_andT, Dd.we_orT, Dd.we_notV, Dd.we_andV, Dd.we_orV, Dd.we_ite, Dd.we_chn, Dd.we_mth, Dd.we_slice, Dd.we_intOf, Dd.nx_next, Dd.nx_ret, Dd.nx_ex, Dd.td_next, Dd.td_cont, Dd.td_brk, Dd.td_ret, Dd.td_ex, Dd.nx_brk, Dd.nx_cont, Dd.wp_skip, Dd.wp_seq, Dd.wp_drop, Dd.wp_ret, Dd.wp_asg, Dd.wp_if, Dd.wp_raise, Dd.wp_set, Dk.wp_aug, Dk.wp_brk, Dk.p_and127, Dk.p_and255, Dk.p_and1, Dk.p_shr8, Dk.p_shr16, Dk.p_shr24, Dk.p_ashr7, Dk.p_ashr8, Dk.p_aadd, Dk.p_asub, Dd.WO, Dk.eq_ss, Dk.ne_ss, Dk.eq_ii, Dk.ne_ii, Dk.isNot_non, Dk.q_add, Dk.q_addt, Dk.q_sub, Dk.q_mod, Dk.q_fdiv, Dk.q_mulr, Dk.q_mull, Dk.q_neg, Dk.q_lt, Dk.q_le, Dk.q_gt, Dk.q_ge, Dk.q_ix0, Dk.q_ix1, Dk.q_ix2, Dk.q_is_t, Dk.q_is_s, Dk.q_is_lt, Dk.q_is_ll, Dk.q_tru, Dk.q_lent, Dk.q_lenr, Dk.q_int, Dk.q_intb, Dk.q_abs, Dk.q_tupr, Dk.q_lstt, Dk.q_lst, Dk.q_tup, Dk.q_oka, Dk.q_oke, Dk.q_okj, Dk.q_app, Dk.q_ext, Dk.q_nm, Dk.q_tp, Dk.q_sa0, Dk.q_sa1, Dk.q_isn, Dk.q_isb, Dk.q_wipe0, Dk.q_wipe1, c3]
      refine (w15i c (2 * r) _ _ (by omega) (by omega)).mono ?_ fun _ _ _ z => z.elim
      rintro d h3 ⟨p, rfl, hp, g3, l3⟩
      have z1 : acc.length + (numB (2 * r)).length ≤ Z := by omega
      have g4 := g3.trans (Grow.one h3 (Ob.lst (nD acc ++ nD (numB (2 * r)))))
      have l4 : lstAt (h3 ++ [Ob.lst (nD acc ++ nD (numB (2 * r)))]) h3.length = some (nD (acc ++ numB (2 * r))) := by rw [nD_app]; exact lst_new
      simp [Dd.we_ret, Dd.we_bnd, Dd.we_lift, Dd.we_var, Dd.we_args_nil, Dd.we_args_cons, Dd.we_opN, Dd.we_op1, Dd.we_op2, Dd.we_call, Dd.we_tst, Dd.we_tru, Dd.we_notT, Dd.we_andT, Dd.we_orT, Dd.we_notV, Dd.we_andV, Dd.we_orV, Dd.we_ite, Dd.we_chn, Dd.we_mth, Dd.we_slice, Dd.we_intOf, Dd.nx_next, Dd.nx_ret, Dd.nx_ex, Dd.td_next, Dd.td_cont, Dd.td_brk, Dd.td_ret, Dd.td_ex, Dd.nx_brk, Dd.nx_cont, Dd.wp_skip, Dd.wp_seq, Dd.wp_drop, Dd.wp_ret, Dd.wp_asg, Dd.wp_if, Dd.wp_raise, Dd.wp_set, Dk.wp_aug, Dk.wp_brk, Dk.p_and127, Dk.p_and255, Dk.p_and1, Dk.p_shr8, Dk.p_shr16, Dk.p_shr24, Dk.p_ashr7, Dk.p_ashr8, Dk.p_aadd, Dk.p_asub, Dd.WO, Dk.eq_ss, Dk.ne_ss, Dk.eq_ii, Dk.ne_ii, Dk.isNot_non, Dk.q_add, Dk.q_addt, Dk.q_sub, Dk.q_mod, Dk.q_fdiv, Dk.q_mulr, Dk.q_mull, Dk.q_neg, Dk.q_lt, Dk.q_le, Dk.q_gt, Dk.q_ge, Dk.q_ix0, Dk.q_ix1, Dk.q_ix2, Dk.q_is_t, Dk.q_is_s, Dk.q_is_lt, Dk.q_is_ll, Dk.q_tru, Dk.q_lent, Dk.q_lenr, Dk.q_int, Dk.q_intb, Dk.q_abs, Dk.q_tupr, Dk.q_lstt, Dk.q_lst, Dk.q_tup, Dk.q_oka, Dk.q_oke, Dk.q_okj, Dk.q_app, Dk.q_ext, Dk.q_nm, Dk.q_tp, Dk.q_sa0, Dk.q_sa1, Dk.q_isn, Dk.q_isb, Dk.q_wipe0, Dk.q_wipe1, q_addr, l3, g3.lst l1, nD_len, z1, newOb, lstAt_some (g4.lst li), q_ixr, ay, Dd.pureO]
      refine (w15i c y _ _ rfl (by omega)).mono ?_ fun _ _ _ z => z.elim
      rintro d h5 ⟨p2, rfl, hp2, g5, l5⟩
      have z2 : acc.length + (numB (2 * r)).length + (numB y).length ≤ Z := by omega
      simp [Dd.we_ret, Dd.we_bnd, Dd.we_lift, Dd.we_var, Dd.we_args_nil, Dd.we_args_cons, Dd.we_opN, Dd.we_op1, Dd.we_op2, Dd.we_call, Dd.we_tst, Dd.we_tru, Dd.we_notT, Dd.we_andT, Dd.we_orT, Dd.we_notV, Dd.we_andV, Dd.we_orV, Dd.we_ite, Dd.we_chn, Dd.we_mth, Dd.we_slice, Dd.we_intOf, Dd.nx_next, Dd.nx_ret, Dd.nx_ex, Dd.td_next, Dd.td_cont, Dd.td_brk, Dd.td_ret, Dd.td_ex, Dd.nx_brk, Dd.nx_cont, Dd.wp_skip, Dd.wp_seq, Dd.wp_drop, Dd.wp_ret, Dd.wp_asg, Dd.wp_if, Dd.wp_raise, Dd.wp_set, Dk.wp_aug, Dk.wp_brk, Dk.p_and127, Dk.p_and255, Dk.p_and1, Dk.p_shr8, Dk.p_shr16, Dk.p_shr24, Dk.p_ashr7, Dk.p_ashr8, Dk.p_aadd, Dk.p_asub, Dd.WO, Dk.eq_ss, Dk.ne_ss, Dk.eq_ii, Dk.ne_ii, Dk.isNot_non, Dk.q_add, Dk.q_addt, Dk.q_sub, Dk.q_mod, Dk.q_fdiv, Dk.q_mulr, Dk.q_mull, Dk.q_neg, Dk.q_lt, Dk.q_le, Dk.q_gt, Dk.q_ge, Dk.q_ix0, Dk.q_ix1, Dk.q_ix2, Dk.q_is_t, Dk.q_is_s, Dk.q_is_lt, Dk.q_is_ll, Dk.q_tru, Dk.q_lent, Dk.q_lenr, Dk.q_int, Dk.q_intb, Dk.q_abs, Dk.q_tupr, Dk.q_lstt, Dk.q_lst, Dk.q_tup, Dk.q_oka, Dk.q_oke, Dk.q_okj, Dk.q_app, Dk.q_ext, Dk.q_nm, Dk.q_tp, Dk.q_sa0, Dk.q_sa1, Dk.q_isn, Dk.q_isb, Dk.q_wipe0, Dk.q_wipe1, q_addr, l5, g5.lst l4, nD_len, z2, newOb]
      refine ⟨acc ++ numB (2 * r) ++ numB y, h5.length, b + r, _, _, rfl, (g.trans (g4.trans g5)).trans (Grow.one _ _), by have := (g.trans (g4.trans g5)).le; omega, by rw [nD_app (acc ++ _)]; exact lst_new, by omega, by rw [← q]; simp only [List.append_assoc], fun z => absurd z w0⟩
    · have c3 : ¬ (4 : Int) ≤ (r : Int) := by omega
      simp [Dd.we_ret, Dd.we_bnd, Dd.we_lift, Dd.we_var, Dd.we_args_nil, Dd.we_args_cons, Dd.we_opN, Dd.we_op1, Dd.we_op2, Dd.we_call, Dd.we_tst, Dd.we_tru, Dd.we_notT, Dd.we_andT, Dd.we_orT, Dd.we_notV, Dd.we_andV, Dd.we_orV, Dd.we_ite, Dd.we_chn, Dd.we_mth, Dd.we_slice, Dd.we_intOf, Dd.nx_next, Dd.nx_ret, Dd.nx_ex, Dd.td_next, Dd.td_cont, Dd.td_brk, Dd.td_ret, Dd.td_ex, Dd.nx_brk, Dd.nx_cont, Dd.wp_skip, Dd.wp_seq, Dd.wp_drop, Dd.wp_ret, Dd.wp_asg, Dd.wp_if, Dd.wp_raise, Dd.wp_set, Dk.wp_aug, Dk.wp_brk, Dk.p_and127, Dk.p_and255, Dk.p_and1, Dk.p_shr8, Dk.p_shr16, Dk.p_shr24, Dk.p_ashr7, Dk.p_ashr8, Dk.p_aadd, Dk.p_asub, Dd.WO, Dk.eq_ss, Dk.ne_ss, Dk.eq_ii, Dk.ne_ii, Dk.isNot_non, Dk.q_add, Dk.q_addt, Dk.q_sub, Dk.q_mod, Dk.q_fdiv, Dk.q_mulr, Dk.q_mull, Dk.q_neg, Dk.q_lt, Dk.q_le, Dk.q_gt, Dk.q_ge, Dk.q_ix0, Dk.q_ix1, Dk.q_ix2, Dk.q_is_t, Dk.q_is_s, Dk.q_is_lt, Dk.q_is_ll, Dk.q_tru, Dk.q_lent, Dk.q_lenr, Dk.q_int, Dk.q_intb, Dk.q_abs, Dk.q_tupr, Dk.q_lstt, Dk.q_lst, Dk.q_tup, Dk.q_oka, Dk.q_oke, Dk.q_okj, Dk.q_app, Dk.q_ext, Dk.q_nm, Dk.q_tp, Dk.q_sa0, Dk.q_sa1, Dk.q_isn, Dk.q_isb, Dk.q_wipe0, Dk.q_wipe1, c3]
      have lp : lawL w (xs.drop b) = pc w ((y :: xs.drop (b + 1)).take (pe 1 (xs.drop (b + 1)))) ++ lawL w ((y :: xs.drop (b + 1)).drop (pe 1 (xs.drop (b + 1)))) := by
        rw [dr] at hr ⊢
        rw [lawL_piece (by omega)]
      refine wp_while (N := 31) (J20 h2 i w most f b _ xs) (by decide) ⟨1, rfl, rfl, Nat.le_refl _, rfl, by omega, rfl⟩ ?_
      rintro m e hh ⟨j, rfl, rfl, j1, jn, jl, qj⟩
      have gn : pe 1 (xs.drop (b + 1)) = j → ∀ p h5, List.length hh ≤ p → Grow hh h5 → lstAt h5 p = some (nD (acc ++ pc w ((xs.drop b).take j))) → I20 h' i w most xs (n - 1) [some (.ref i), some (.int (most : Int)), some (.int (w : Int)), some (.ref p), some (.int ((b : Int) + (j : Int))), some (.int (r : Int)), some (.int ((b : Int) + (j : Int)))] h5 := fun hp p h5 hlp g5 l5 => by
        refine ⟨acc ++ pc w ((xs.drop b).take j), p, b + j, _, _, rfl, g.trans g5, by have := g.le; omega, l5, by omega, ?_, fun z => absurd z w0⟩
        rw [← q, lp, hp, List.append_assoc]
        rw [← List.drop_drop, dr]
      have gz : pe 1 (xs.drop (b + 1)) = j → acc.length + (pc w ((xs.drop b).take j)).length ≤ Z := fun hp => by
        rw [lp, hp] at ql
        rw [List.length_append, ← dr] at ql
        omega
      by_cases d0 : b + j < xs.length
      · have d1 : (b : Int) + (j : Int) < (xs.length : Int) := by omega
        rw [pe_step d0] at qj
        by_cases d2 : j < 32
        · have d3 : (b : Int) + (j : Int) - (b : Int) < 32 := by omega
          have d4 : (j : Int) < 32 := by omega
          simp [Dd.we_ret, Dd.we_bnd, Dd.we_lift, Dd.we_var, Dd.we_args_nil, Dd.we_args_cons, Dd.we_opN, Dd.we_op1, Dd.we_op2, Dd.we_call, Dd.we_tst, Dd.we_tru, Dd.we_notT, Dd.we_andT, Dd.we_orT, Dd.we_notV, Dd.we_andV, Dd.we_orV, Dd.we_ite, Dd.we_chn, Dd.we_mth, Dd.we_slice, Dd.we_intOf, Dd.nx_next, Dd.nx_ret, Dd.nx_ex, Dd.td_next, Dd.td_cont, Dd.td_brk, Dd.td_ret, Dd.td_ex, Dd.nx_brk, Dd.nx_cont, Dd.wp_skip, Dd.wp_seq, Dd.wp_drop, Dd.wp_ret, Dd.wp_asg, Dd.wp_if, Dd.wp_raise, Dd.wp_set, Dk.wp_aug, Dk.wp_brk, Dk.p_and127, Dk.p_and255, Dk.p_and1, Dk.p_shr8, Dk.p_shr16, Dk.p_shr24, Dk.p_ashr7, Dk.p_ashr8, Dk.p_aadd, Dk.p_asub, Dd.WO, Dk.eq_ss, Dk.ne_ss, Dk.eq_ii, Dk.ne_ii, Dk.isNot_non, Dk.q_add, Dk.q_addt, Dk.q_sub, Dk.q_mod, Dk.q_fdiv, Dk.q_mulr, Dk.q_mull, Dk.q_neg, Dk.q_lt, Dk.q_le, Dk.q_gt, Dk.q_ge, Dk.q_ix0, Dk.q_ix1, Dk.q_ix2, Dk.q_is_t, Dk.q_is_s, Dk.q_is_lt, Dk.q_is_ll, Dk.q_tru, Dk.q_lent, Dk.q_lenr, Dk.q_int, Dk.q_intb, Dk.q_abs, Dk.q_tupr, Dk.q_lstt, Dk.q_lst, Dk.q_tup, Dk.q_oka, Dk.q_oke, Dk.q_okj, Dk.q_app, Dk.q_ext, Dk.q_nm, Dk.q_tp, Dk.q_sa0, Dk.q_sa1, Dk.q_isn, Dk.q_isb, Dk.q_wipe0, Dk.q_wipe1, lstAt_some li, nD_len, d0, d1, d2, d3, d4]
          refine (w19i c i xs (b + j) 4 hh _ _ (by omega) rfl li d0 hz (by decide)).mono ?_ fun _ _ _ z => z.elim
          rintro d h2 ⟨rfl, rfl⟩
          by_cases d5 : run (xs.drop (b + j)) < 4
          · have d6 : ((min (run (xs.drop (b + j))) 4 : Nat) : Int) < 4 := by omega
            have d7 : min ((run (xs.drop (b + j)) : Nat) : Int) 4 < 4 := by omega
            rw [if_pos ⟨d2, d5⟩] at qj
            simp [Dd.we_ret, Dd.we_bnd, Dd.we_lift, Dd.we_var, Dd.we_args_nil, Dd.we_args_cons, Dd.we_opN, Dd.we_op1, Dd.we_op2, Dd.we_call, Dd.we_tst, Dd.we_tru, Dd.we_notT, Dd.we_andT, Dd.we_orT, Dd.we_notV, Dd.we_andV, Dd.we_orV, Dd.we_ite, Dd.we_chn, Dd.we_mth, Dd.we_slice, Dd.we_intOf, Dd.nx_next, Dd.nx_ret, Dd.nx_ex, Dd.td_next, Dd.td_cont, Dd.td_brk, Dd.td_ret, Dd.td_ex, Dd.nx_brk, Dd.nx_cont, Dd.wp_skip, Dd.wp_seq, Dd.wp_drop, Dd.wp_ret, Dd.wp_asg, Dd.wp_if, Dd.wp_raise, Dd.wp_set, Dk.wp_aug, Dk.wp_brk, Dk.p_and127, Dk.p_and255, Dk.p_and1, Dk.p_shr8, Dk.p_shr16, Dk.p_shr24, Dk.p_ashr7, Dk.p_ashr8, Dk.p_aadd, Dk.p_asub, Dd.WO, Dk.eq_ss, Dk.ne_ss, Dk.eq_ii, Dk.ne_ii, Dk.isNot_non, Dk.q_add, Dk.q_addt, Dk.q_sub, Dk.q_mod, Dk.q_fdiv, Dk.q_mulr, Dk.q_mull, Dk.q_neg, Dk.q_lt, Dk.q_le, Dk.q_gt, Dk.q_ge, Dk.q_ix0, Dk.q_ix1, Dk.q_ix2, Dk.q_is_t, Dk.q_is_s, Dk.q_is_lt, Dk.q_is_ll, Dk.q_tru, Dk.q_lent, Dk.q_lenr, Dk.q_int, Dk.q_intb, Dk.q_abs, Dk.q_tupr, Dk.q_lstt, Dk.q_lst, Dk.q_tup, Dk.q_oka, Dk.q_oke, Dk.q_okj, Dk.q_app, Dk.q_ext, Dk.q_nm, Dk.q_tp, Dk.q_sa0, Dk.q_sa1, Dk.q_isn, Dk.q_isb, Dk.q_wipe0, Dk.q_wipe1, d5, d6, d7]
            exact ⟨m - 1, by omega, j + 1, rfl, rfl, by omega, by omega, by omega, qj⟩
          · have d6 : ¬ ((min (run (xs.drop (b + j))) 4 : Nat) : Int) < 4 := by omega
            have d7 : ¬ min ((run (xs.drop (b + j)) : Nat) : Int) 4 < 4 := by omega
            rw [if_neg (fun z => d5 z.2)] at qj
            simp [Dd.we_ret, Dd.we_bnd, Dd.we_lift, Dd.we_var, Dd.we_args_nil, Dd.we_args_cons, Dd.we_opN, Dd.we_op1, Dd.we_op2, Dd.we_call, Dd.we_tst, Dd.we_tru, Dd.we_notT, Dd.we_andT, Dd.we_orT, Dd.we_notV, Dd.we_andV, Dd.we_orV, Dd.we_ite, Dd.we_chn, Dd.we_mth, Dd.we_slice, Dd.we_intOf, Dd.nx_next, Dd.nx_ret, Dd.nx_ex, Dd.td_next, Dd.td_cont, Dd.td_brk, Dd.td_ret, Dd.td_ex, Dd.nx_brk, Dd.nx_cont, Dd.wp_skip, Dd.wp_seq, Dd.wp_drop, Dd.wp_ret, Dd.wp_asg, Dd.wp_if, Dd.wp_raise, Dd.wp_set, Dk.wp_aug, Dk.wp_brk, Dk.p_and127, Dk.p_and255, Dk.p_and1, Dk.p_shr8, Dk.p_shr16, Dk.p_shr24, Dk.p_ashr7, Dk.p_ashr8, Dk.p_aadd, Dk.p_asub, Dd.WO, Dk.eq_ss, Dk.ne_ss, Dk.eq_ii, Dk.ne_ii, Dk.isNot_non, Dk.q_add, Dk.q_addt, Dk.q_sub, Dk.q_mod, Dk.q_fdiv, Dk.q_mulr, Dk.q_mull, Dk.q_neg, Dk.q_lt, Dk.q_le, Dk.q_gt, Dk.q_ge, Dk.q_ix0, Dk.q_ix1, Dk.q_ix2, Dk.q_is_t, Dk.q_is_s, Dk.q_is_lt, Dk.q_is_ll, Dk.q_tru, Dk.q_lent, Dk.q_lenr, Dk.q_int, Dk.q_intb, Dk.q_abs, Dk.q_tupr, Dk.q_lstt, Dk.q_lst, Dk.q_tup, Dk.q_oka, Dk.q_oke, Dk.q_okj, Dk.q_app, Dk.q_ext, Dk.q_nm, Dk.q_tp, Dk.q_sa0, Dk.q_sa1, Dk.q_isn, Dk.q_isb, Dk.q_wipe0, Dk.q_wipe1, d5, d6, d7]
            refine w20_end c i w f b j xs acc h2 _ _ _ li l1 hx2 wle (by omega) jl (gz qj.symm) ?_
            exact gn qj.symm
        · have d3 : ¬ (b : Int) + (j : Int) - (b : Int) < 32 := by omega
          have d4 : ¬ (j : Int) < 32 := by omega
          rw [if_neg (fun z => d2 z.1)] at qj
          simp [Dd.we_ret, Dd.we_bnd, Dd.we_lift, Dd.we_var, Dd.we_args_nil, Dd.we_args_cons, Dd.we_opN, Dd.we_op1, Dd.we_op2, Dd.we_call, Dd.we_tst, Dd.we_tru, Dd.we_notT, Dd.we_andT, Dd.we_orT, Dd.we_notV, Dd.we_andV, Dd.we_orV, Dd.we_ite, Dd.we_chn, Dd.we_mth, Dd.we_slice, Dd.we_intOf, Dd.nx_next, Dd.nx_ret, Dd.nx_ex, Dd.td_next, Dd.td_cont, Dd.td_brk, Dd.td_ret, Dd.td_ex, Dd.nx_brk, Dd.nx_cont, Dd.wp_skip, Dd.wp_seq, Dd.wp_drop, Dd.wp_ret, Dd.wp_asg, Dd.wp_if, Dd.wp_raise, Dd.wp_set, Dk.wp_aug, Dk.wp_brk, Dk.p_and127, Dk.p_and255, Dk.p_and1, Dk.p_shr8, Dk.p_shr16, Dk.p_shr24, Dk.p_ashr7, Dk.p_ashr8, Dk.p_aadd, Dk.p_asub, Dd.WO, Dk.eq_ss, Dk.ne_ss, Dk.eq_ii, Dk.ne_ii, Dk.isNot_non, Dk.q_add, Dk.q_addt, Dk.q_sub, Dk.q_mod, Dk.q_fdiv, Dk.q_mulr, Dk.q_mull, Dk.q_neg, Dk.q_lt, Dk.q_le, Dk.q_gt, Dk.q_ge, Dk.q_ix0, Dk.q_ix1, Dk.q_ix2, Dk.q_is_t, Dk.q_is_s, Dk.q_is_lt, Dk.q_is_ll, Dk.q_tru, Dk.q_lent, Dk.q_lenr, Dk.q_int, Dk.q_intb, Dk.q_abs, Dk.q_tupr, Dk.q_lstt, Dk.q_lst, Dk.q_tup, Dk.q_oka, Dk.q_oke, Dk.q_okj, Dk.q_app, Dk.q_ext, Dk.q_nm, Dk.q_tp, Dk.q_sa0, Dk.q_sa1, Dk.q_isn, Dk.q_isb, Dk.q_wipe0, Dk.q_wipe1, lstAt_some li, nD_len, d0, d1, d2, d3, d4]
          refine w20_end c i w f b j xs acc hh _ _ _ li l1 hx2 wle (by omega) jl (gz qj.symm) ?_
          exact gn qj.symm
      · have d1 : ¬ (b : Int) + (j : Int) < (xs.length : Int) := by omega
        rw [pe_nil j (by rw [List.length_drop]; omega)] at qj
        simp [Dd.we_ret, Dd.we_bnd, Dd.we_lift, Dd.we_var, Dd.we_args_nil, Dd.we_args_cons, Dd.we_opN, Dd.we_op1, Dd.we_op2, Dd.we_call, Dd.we_tst, Dd.we_tru, Dd.we_notT, Dd.we_andT, Dd.we_orT, Dd.we_notV, Dd.we_andV, Dd.we_orV, Dd.we_ite, Dd.we_chn, Dd.we_mth, Dd.we_slice, Dd.we_intOf, Dd.nx_next, Dd.nx_ret, Dd.nx_ex, Dd.td_next, Dd.td_cont, Dd.td_brk, Dd.td_ret, Dd.td_ex, Dd.nx_brk, Dd.nx_cont, Dd.wp_skip, Dd.wp_seq, Dd.wp_drop, Dd.wp_ret, Dd.wp_asg, Dd.wp_if, Dd.wp_raise, Dd.wp_set, Dk.wp_aug, Dk.wp_brk, Dk.p_and127, Dk.p_and255, Dk.p_and1, Dk.p_shr8, Dk.p_shr16, Dk.p_shr24, Dk.p_ashr7, Dk.p_ashr8, Dk.p_aadd, Dk.p_asub, Dd.WO, Dk.eq_ss, Dk.ne_ss, Dk.eq_ii, Dk.ne_ii, Dk.isNot_non, Dk.q_add, Dk.q_addt, Dk.q_sub, Dk.q_mod, Dk.q_fdiv, Dk.q_mulr, Dk.q_mull, Dk.q_neg, Dk.q_lt, Dk.q_le, Dk.q_gt, Dk.q_ge, Dk.q_ix0, Dk.q_ix1, Dk.q_ix2, Dk.q_is_t, Dk.q_is_s, Dk.q_is_lt, Dk.q_is_ll, Dk.q_tru, Dk.q_lent, Dk.q_lenr, Dk.q_int, Dk.q_intb, Dk.q_abs, Dk.q_tupr, Dk.q_lstt, Dk.q_lst, Dk.q_tup, Dk.q_oka, Dk.q_oke, Dk.q_okj, Dk.q_app, Dk.q_ext, Dk.q_nm, Dk.q_tp, Dk.q_sa0, Dk.q_sa1, Dk.q_isn, Dk.q_isb, Dk.q_wipe0, Dk.q_wipe1, lstAt_some li, nD_len, d0, d1]
        refine w20_end c i w f b j xs acc hh _ _ _ li l1 hx2 wle (by omega) jl (gz qj.symm) ?_
        exact gn qj.symm
  · have c1 : ¬ (b : Int) < (xs.length : Int) := by omega
    have bl : b = xs.length := by omega
    rw [List.drop_eq_nil_of_le (by omega), lawL_nil, List.append_nil] at q
    simp [Dd.we_ret, Dd.we_bnd, Dd.we_lift, Dd.we_var, Dd.we_args_nil, Dd.we_args_cons, Dd.we_opN, Dd.we_op1, Dd.we_op2, Dd.we_call, Dd.we_tst, Dd.we_tru, Dd.we_notT, Dd.we_andT, Dd.we_orT, Dd.we_notV, Dd.we_andV, Dd.we_orV, Dd.we_ite, Dd.we_chn, Dd.we_mth, Dd.we_slice, Dd.we_intOf, Dd.nx_next, Dd.nx_ret, Dd.nx_ex, Dd.td_next, Dd.td_cont, Dd.td_brk, Dd.td_ret, Dd.td_ex, Dd.nx_brk, Dd.nx_cont, Dd.wp_skip, Dd.wp_seq, Dd.wp_drop, Dd.wp_ret, Dd.wp_asg, Dd.wp_if, Dd.wp_raise, Dd.wp_set, Dk.wp_aug, Dk.wp_brk, Dk.p_and127, Dk.p_and255, Dk.p_and1, Dk.p_shr8, Dk.p_shr16, Dk.p_shr24, Dk.p_ashr7, Dk.p_ashr8, Dk.p_aadd, Dk.p_asub, Dd.WO, Dk.eq_ss, Dk.ne_ss, Dk.eq_ii, Dk.ne_ii, Dk.isNot_non, Dk.q_add, Dk.q_addt, Dk.q_sub, Dk.q_mod, Dk.q_fdiv, Dk.q_mulr, Dk.q_mull, Dk.q_neg, Dk.q_lt, Dk.q_le, Dk.q_gt, Dk.q_ge, Dk.q_ix0, Dk.q_ix1, Dk.q_ix2, Dk.q_is_t, Dk.q_is_s, Dk.q_is_lt, Dk.q_is_ll, Dk.q_tru, Dk.q_lent, Dk.q_lenr, Dk.q_int, Dk.q_intb, Dk.q_abs, Dk.q_tupr, Dk.q_lstt, Dk.q_lst, Dk.q_tup, Dk.q_oka, Dk.q_oke, Dk.q_okj, Dk.q_app, Dk.q_ext, Dk.q_nm, Dk.q_tp, Dk.q_sa0, Dk.q_sa1, Dk.q_isn, Dk.q_isb, Dk.q_wipe0, Dk.q_wipe1, lstAt_some li, nD_len, c0, c1, end_ret, w0]
    exact ⟨hf, g, by rw [l1, q]⟩
end Dk

set_option Elab.async false
set_option linter.all false
set_option maxRecDepth 100000
set_option maxHeartbeats 4000000
namespace Dk
open PySem PySem.Spec PyProof.Rows L2 Dd

/-! ### levels read -/
def unp (w k : Nat) (bs : List Nat) : Option (List Nat × Nat) := if (k * w + 7) / 8 ≤ bs.length ∧ valN 8 (bs.take ((k * w + 7) / 8)) < 2 ^ (w * k) then some (digN w k (valN 8 (bs.take ((k * w + 7) / 8))), (k * w + 7) / 8) else none
def piece (w head : Nat) (bs : List Nat) : Option (List Nat × Nat) := if head % 2 = 1 then unp w (head / 2) bs else (tk 5 0 bs).map fun x => (List.replicate (head / 2) x.1, x.2)
def tkL (w most : Nat) : Nat → Nat → List Nat → Option (List Nat × Nat)
  | 0, c, _ => if c = 0 then some ([], 0) else none
  | n + 1, c, bs => if c = 0 then some ([], 0) else match tk 5 0 bs with
    | none => none
    | some (head, l1) => if head / 2 = 0 ∨ c < head / 2 then none else match piece w head (bs.drop l1) with
      | none => none
      | some (p, l2) => if p.all (fun x => decide (x ≤ most)) then (tkL w most n (c - head / 2) (bs.drop (l1 + l2))).map fun x => (p ++ x.1, l1 + l2 + x.2) else none
def tkLev (most count : Nat) (bs : List Nat) : Option (List Nat × Nat) := if bitsN most = 0 then some (List.replicate count 0, 0) else tkL (bitsN most) most count count bs
theorem ints_nD (xs : List Nat) : intsD (nD xs) = some (xs.map fun x : Nat => (x : Int)) := by
  induction xs with
  | nil => rfl
  | cons x xs ih =>
    show (intsD (nD xs)).map _ = _
    rw [ih]; rfl
theorem maxL_go (xs : List Nat) (a : Nat) : ∃ m : Nat, (xs.map fun x : Nat => (x : Int)).foldl (fun a b => if ltI a b then b else a) (a : Int) = (m : Int) ∧ a ≤ m ∧ (∀ x ∈ xs, x ≤ m) ∧ (m = a ∨ m ∈ xs) := by
  induction xs generalizing a with
  | nil => exact ⟨a, rfl, Nat.le_refl _, fun _ z => (List.not_mem_nil z).elim, Or.inl rfl⟩
  | cons x xs ih =>
    rw [List.map_cons, List.foldl_cons, ltI_eq]
    by_cases c : a < x
    · rw [decide_eq_true (by omega : (a : Int) < (x : Int)), if_pos rfl]
      obtain ⟨m, h1, h2, h3, h4⟩ := ih x
      refine ⟨m, h1, by omega, fun y hy => ?_, ?_⟩
      · rcases List.mem_cons.mp hy with rfl | hy
        · exact h2
        · exact h3 y hy
      · rcases h4 with h4 | h4
        · exact .inr (by rw [h4]; exact List.mem_cons_self)
        · exact .inr (List.mem_cons_of_mem _ h4)
    · rw [decide_eq_false (by omega : ¬ (a : Int) < (x : Int)), if_neg (by decide)]
      obtain ⟨m, h1, h2, h3, h4⟩ := ih a
      refine ⟨m, h1, h2, fun y hy => ?_, ?_⟩
      · rcases List.mem_cons.mp hy with rfl | hy
        · omega
        · exact h3 y hy
      · rcases h4 with h4 | h4
        · exact .inl h4
        · exact .inr (List.mem_cons_of_mem _ h4)
theorem max_of {i : Nat} {h : DH} {xs : List Nat} (l : lstAt h i = some (nD xs)) (h0 : xs ≠ []) : ∃ m : Nat, bltD .max [.ref i] h = some (.int (m : Int), h) ∧ ∀ k, m ≤ k ↔ xs.all (fun x => decide (x ≤ k)) = true := by
  cases xs with
  | nil => exact absurd rfl h0
  | cons x xs =>
    obtain ⟨m, h1, h2, h3, h4⟩ := maxL_go xs x
    refine ⟨m, ?_, fun k => ?_⟩
    · show (match lstAt h i with | some ds => (match intsD ds with | some (x :: r) => some (D.int (maxL (x :: r)), h) | _ => none) | none => none) = _
      rw [l]
      dsimp only
      rw [ints_nD]
      show some (D.int (maxL ((x : Int) :: xs.map fun x : Nat => (x : Int))), h) = _
      rw [maxL, h1]
    · rw [List.all_eq_true]
      constructor
      · intro hm y hy
        rw [decide_eq_true_eq]
        rcases List.mem_cons.mp hy with rfl | hy
        · omega
        · have := h3 y hy; omega
      · intro hy
        rcases h4 with h4 | h4
        · have := hy x List.mem_cons_self; rw [decide_eq_true_eq] at this; omega
        · have := hy m (List.mem_cons_of_mem _ h4); rw [decide_eq_true_eq] at this; exact this
theorem w1i (c i : Nat) (bs : List Nat) (at_ : Nat) (h : DH) (v : Int) (hv : v = (at_ : Int)) (l : lstAt h i = some (nD bs)) (hb : ∀ b ∈ bs, b < 2 ^ 60) : WC (pg.run (c + 1)) 1 [.ref i, .int v] h (fun d h' => h' = h ∧ ∃ n l, tk 5 0 (bs.drop at_) = some (n, l) ∧ d = .tup [.int (n : Int), .int ((at_ + l : Nat) : Int)]) fun c p h' => c = 0 ∧ h' = h ∧ tk 5 0 (bs.drop at_) = none := by
  rw [hv]; exact w1 c i bs at_ h l hb
theorem w8i (c i : Nat) (data : List Nat) (at_ count w : Nat) (h : DH) (v : Int) (hv : v = (at_ : Int)) (l : lstAt h i = some (nD data)) (hb : ∀ x ∈ data, x < 256) (hw : w ≤ 64) (hz : count ≤ 1000000) (w0 : w ≠ 0) (c0 : 0 < count) : WC (pg.run (c + 1)) 8 [.ref i, .int v, .int (count : Int), .int (w : Int)] h
    (fun d h' => ∃ f vs l2, d = .tup [.ref f, .int ((at_ + l2 : Nat) : Int)] ∧ h.length ≤ f ∧ Grow h h' ∧ lstAt h' f = some (nD vs) ∧ vs.length = count ∧ unp w count (data.drop at_) = some (vs, l2))
    fun c _ h' => c = 0 ∧ Grow h h' ∧ unp w count (data.drop at_) = none := by
  rw [hv]
  refine (w8 c i data at_ count w h l hb hw hz).mono ?_ ?_
  · rintro d h' ⟨f, rfl, hf, g, l1, z1, z2⟩
    refine ⟨f, _, _, rfl, hf, g, l1, digN_len _ _ _, ?_⟩
    unfold unp
    rw [if_pos ⟨by rw [List.length_drop]; have := z1 w0; omega, z2⟩]
  · rintro c p h' ⟨rfl, g, -, z⟩
    refine ⟨rfl, g, ?_⟩
    unfold unp
    rw [if_neg]
    rintro ⟨z1, z2⟩
    rw [List.length_drop] at z1
    rcases z with z | z
    · have : 0 < count * w := Nat.mul_pos c0 (Nat.pos_of_ne_zero w0)
      omega
    · omega
theorem digN_nil {w k v : Nat} (hk : 0 < k) : digN w k v ≠ [] := by
  intro z
  have := digN_len w k v
  rw [z] at this; rw [List.length_nil] at this; omega
def I12 (h : DH) (i w most count a0 : Nat) (bs : List Nat) (n : Nat) (e : DE) (hh : DH) : Prop := ∃ (acc : List Nat) (a : Nat) (x y z u : Option D), e = [some (.ref i), some (.int (a : Int)), some (.int (count : Int)), some (.int (most : Int)), some (.int (w : Int)), some (.ref h.length), x, y, z, u] ∧ Grow h hh ∧ lstAt hh h.length = some (nD acc) ∧ acc.length ≤ count ∧ count ≤ acc.length + n ∧ a0 ≤ a ∧
  tkL w most count count (bs.drop a0) = (tkL w most n (count - acc.length) (bs.drop a)).map fun x => (acc ++ x.1, a - a0 + x.2)
theorem w12 (c i a0 count most : Nat) (bs : List Nat) (h : DH) (l : lstAt h i = some (nD bs)) (hb : ∀ x ∈ bs, x < 256) (hw : most < 34359738368) (hz : count ≤ 999999) : WC (pg.run (c + 2)) 12 [.ref i, .int (a0 : Int), .int (count : Int), .int (most : Int)] h
    (fun d h' => ∃ f vs l, d = .tup [.ref f, .int ((a0 + l : Nat) : Int)] ∧ h.length ≤ f ∧ Grow h h' ∧ lstAt h' f = some (nD vs) ∧ tkLev most count (bs.drop a0) = some (vs, l))
    fun c _ h' => c = 0 ∧ Grow h h' ∧ tkLev most count (bs.drop a0) = none := by
  refine wc_of (f := f12) rfl e12 rfl ?_
  have zz : Z = 16777216 := rfl
  have hi : i < h.length := (List.getElem?_eq_some_iff.mp (lstAt_some l)).1
  have wle : bitsN most ≤ 64 := Nat.le_trans (bits_le (k := 35) hw) (by decide)
  have hb60 : ∀ b ∈ bs, b < 2 ^ 60 := fun b m => by have := hb b m; omega
  unfold b12
  unfold tkLev
  simp [startD, f12, Dd.we_ret, Dd.we_bnd, Dd.we_lift, Dd.we_var, Dd.we_args_nil, Dd.we_args_cons, Dd.we_opN, Dd.we_op1, Dd.we_op2, Dd.we_call, Dd.we_tst, Dd.we_tru, Dd.we_notT, Dd.we_andT, Dd.we_orT, Dd.we_notV, Dd.we_andV, Dd.we_orV, Dd.we_ite, Dd.we_chn, Dd.we_mth, Dd.we_slice, Dd.we_intOf, Dd.nx_next, Dd.nx_ret, Dd.nx_ex, Dd.td_next, Dd.td_cont, Dd.td_brk, Dd.td_ret, Dd.td_ex, Dd.nx_brk, Dd.nx_cont, Dd.wp_skip, Dd.wp_seq, Dd.wp_drop, Dd.wp_ret, Dd.wp_asg, Dd.wp_if, Dd.wp_raise, Dd.wp_set, Dk.wp_aug, Dk.wp_brk, Dk.p_and127, Dk.p_and255, Dk.p_and1, Dk.p_shr8, Dk.p_shr16, Dk.p_shr24, Dk.p_ashr7, Dk.p_ashr8, Dk.p_aadd, Dk.p_asub, Dd.WO, Dk.eq_ss, Dk.ne_ss, Dk.eq_ii, Dk.ne_ii, Dk.isNot_non, Dk.q_add, Dk.q_addt, Dk.q_sub, Dk.q_mod, Dk.q_fdiv, Dk.q_mulr, Dk.q_mull, Dk.q_neg, Dk.q_lt, Dk.q_le, Dk.q_gt, Dk.q_ge, Dk.q_ix0, Dk.q_ix1, Dk.q_ix2, Dk.q_is_t, Dk.q_is_s, Dk.q_is_lt, Dk.q_is_ll, Dk.q_tru, Dk.q_lent, Dk.q_lenr, Dk.q_int, Dk.q_intb, Dk.q_abs, Dk.q_tupr, Dk.q_lstt, Dk.q_lst, Dk.q_tup, Dk.q_oka, Dk.q_oke, Dk.q_okj, Dk.q_app, Dk.q_ext, Dk.q_nm, Dk.q_tp, Dk.q_sa0, Dk.q_sa1, Dk.q_isn, Dk.q_isb, Dk.q_wipe0, Dk.q_wipe1]
  refine (w6 c most h).mono ?_ fun _ _ _ z => z.elim
  rintro d h' ⟨rfl, rfl⟩
  by_cases w0 : bitsN most = 0
  · have bl : below (count : Int) 9223372036854775808 = true := below_iff.mpr (by omega)
    have l1 : lstAt (h' ++ [Ob.lst [D.int 0]]) h'.length = some [D.int 0] := lst_new
    have cz : count ≤ Z := by omega
    simp [Dd.we_ret, Dd.we_bnd, Dd.we_lift, Dd.we_var, Dd.we_args_nil, Dd.we_args_cons, Dd.we_opN, Dd.we_op1, Dd.we_op2, Dd.we_call, Dd.we_tst, Dd.we_tru, Dd.we_notT, Dd.we_andT, Dd.we_orT, Dd.we_notV, Dd.we_andV, Dd.we_orV, Dd.we_ite, Dd.we_chn, Dd.we_mth, Dd.we_slice, Dd.we_intOf, Dd.nx_next, Dd.nx_ret, Dd.nx_ex, Dd.td_next, Dd.td_cont, Dd.td_brk, Dd.td_ret, Dd.td_ex, Dd.nx_brk, Dd.nx_cont, Dd.wp_skip, Dd.wp_seq, Dd.wp_drop, Dd.wp_ret, Dd.wp_asg, Dd.wp_if, Dd.wp_raise, Dd.wp_set, Dk.wp_aug, Dk.wp_brk, Dk.p_and127, Dk.p_and255, Dk.p_and1, Dk.p_shr8, Dk.p_shr16, Dk.p_shr24, Dk.p_ashr7, Dk.p_ashr8, Dk.p_aadd, Dk.p_asub, Dd.WO, Dk.eq_ss, Dk.ne_ss, Dk.eq_ii, Dk.ne_ii, Dk.isNot_non, Dk.q_add, Dk.q_addt, Dk.q_sub, Dk.q_mod, Dk.q_fdiv, Dk.q_mulr, Dk.q_mull, Dk.q_neg, Dk.q_lt, Dk.q_le, Dk.q_gt, Dk.q_ge, Dk.q_ix0, Dk.q_ix1, Dk.q_ix2, Dk.q_is_t, Dk.q_is_s, Dk.q_is_lt, Dk.q_is_ll, Dk.q_tru, Dk.q_lent, Dk.q_lenr, Dk.q_int, Dk.q_intb, Dk.q_abs, Dk.q_tupr, Dk.q_lstt, Dk.q_lst, Dk.q_tup, Dk.q_oka, Dk.q_oke, Dk.q_okj, Dk.q_app, Dk.q_ext, Dk.q_nm, Dk.q_tp, Dk.q_sa0, Dk.q_sa1, Dk.q_isn, Dk.q_isb, Dk.q_wipe0, Dk.q_wipe1, w0, q_mulr', l1, bl, cz, newOb, end_ret]
    refine ⟨_, _, 0, ⟨rfl, by omega⟩, by omega, ⟨_, rfl⟩, ?_, rfl, rfl⟩
    rw [show nD (List.replicate count 0) = List.replicate count (D.int 0) from List.map_replicate]
    exact lst_app (k := 1) rfl rfl
  simp [Dd.we_ret, Dd.we_bnd, Dd.we_lift, Dd.we_var, Dd.we_args_nil, Dd.we_args_cons, Dd.we_opN, Dd.we_op1, Dd.we_op2, Dd.we_call, Dd.we_tst, Dd.we_tru, Dd.we_notT, Dd.we_andT, Dd.we_orT, Dd.we_notV, Dd.we_andV, Dd.we_orV, Dd.we_ite, Dd.we_chn, Dd.we_mth, Dd.we_slice, Dd.we_intOf, Dd.nx_next, Dd.nx_ret, Dd.nx_ex, Dd.td_next, Dd.td_cont, Dd.td_brk, Dd.td_ret, Dd.td_ex, Dd.nx_brk, Dd.nx_cont, Dd.wp_skip, Dd.wp_seq, Dd.wp_drop, Dd.wp_ret, Dd.wp_asg, Dd.wp_if, Dd.wp_raise, Dd.wp_set, Dk.wp_aug, Dk.wp_brk, Dk.p_and127, Dk.p_and255, Dk.p_and1, Dk.p_shr8, Dk.p_shr16, Dk.p_shr24, Dk.p_ashr7, Dk.p_ashr8, Dk.p_aadd, Dk.p_asub, Dd.WO, Dk.eq_ss, Dk.ne_ss, Dk.eq_ii, Dk.ne_ii, Dk.isNot_non, Dk.q_add, Dk.q_addt, Dk.q_sub, Dk.q_mod, Dk.q_fdiv, Dk.q_mulr, Dk.q_mull, Dk.q_neg, Dk.q_lt, Dk.q_le, Dk.q_gt, Dk.q_ge, Dk.q_ix0, Dk.q_ix1, Dk.q_ix2, Dk.q_is_t, Dk.q_is_s, Dk.q_is_lt, Dk.q_is_ll, Dk.q_tru, Dk.q_lent, Dk.q_lenr, Dk.q_int, Dk.q_intb, Dk.q_abs, Dk.q_tupr, Dk.q_lstt, Dk.q_lst, Dk.q_tup, Dk.q_oka, Dk.q_oke, Dk.q_okj, Dk.q_app, Dk.q_ext, Dk.q_nm, Dk.q_tp, Dk.q_sa0, Dk.q_sa1, Dk.q_isn, Dk.q_isb, Dk.q_wipe0, Dk.q_wipe1, w0]
  obtain ⟨w, hw'⟩ : ∃ w, w = bitsN most := ⟨_, rfl⟩
  rw [← hw'] at wle w0 ⊢
  refine wp_while (N := count) (I12 h' i w most count a0 bs) (by omega) ⟨[], a0, _, _, _, _, rfl, Grow.one h' _, lst_new, Nat.zero_le _, by omega, Nat.le_refl _, by simp⟩ ?_
  rintro n e hh ⟨acc, a, x, y, z, u, rfl, g, l1, hc, hn, ha, q⟩
  have li := g.lst l
  have lh : h'.length < hh.length := (List.getElem?_eq_some_iff.mp (lstAt_some l1)).1
  by_cases c0 : acc.length < count
  · have c1 : (acc.length : Int) < (count : Int) := by omega
    obtain ⟨m, rfl⟩ : ∃ m, n = m + 1 := ⟨n - 1, by omega⟩
    rw [tkL, if_neg (by omega)] at q
    simp [Dd.we_ret, Dd.we_bnd, Dd.we_lift, Dd.we_var, Dd.we_args_nil, Dd.we_args_cons, Dd.we_opN, Dd.we_op1, Dd.we_op2, Dd.we_call, Dd.we_tst, Dd.we_tru, Dd.we_notT, Dd.we_andT, Dd.we_orT, Dd.we_notV, Dd.we_andV, Dd.we_orV, Dd.we_ite, Dd.we_chn, Dd.we_mth, Dd.we_slice, Dd.we_intOf, Dd.nx_next, Dd.nx_ret, Dd.nx_ex, Dd.td_next, Dd.td_cont, Dd.td_brk, Dd.td_ret, Dd.td_ex, Dd.nx_brk, Dd.nx_cont, Dd.wp_skip, Dd.wp_seq, Dd.wp_drop, Dd.wp_ret, Dd.wp_asg, Dd.wp_if, Dd.wp_raise, Dd.wp_set, Dk.wp_aug, Dk.wp_brk, Dk.p_and127, Dk.p_and255, Dk.p_and1, Dk.p_shr8, Dk.p_shr16, Dk.p_shr24, Dk.p_ashr7, Dk.p_ashr8, Dk.p_aadd, Dk.p_asub, Dd.WO, Dk.eq_ss, Dk.ne_ss, Dk.eq_ii, Dk.ne_ii, Dk.isNot_non, Dk.q_add, Dk.q_addt, Dk.q_sub, Dk.q_mod, Dk.q_fdiv, Dk.q_mulr, Dk.q_mull, Dk.q_neg, Dk.q_lt, Dk.q_le, Dk.q_gt, Dk.q_ge, Dk.q_ix0, Dk.q_ix1, Dk.q_ix2, Dk.q_is_t, Dk.q_is_s, Dk.q_is_lt, Dk.q_is_ll, Dk.q_tru, Dk.q_lent, Dk.q_lenr, Dk.q_int, Dk.q_intb, Dk.q_abs, Dk.q_tupr, Dk.q_lstt, Dk.q_lst, Dk.q_tup, Dk.q_oka, Dk.q_oke, Dk.q_okj, Dk.q_app, Dk.q_ext, Dk.q_nm, Dk.q_tp, Dk.q_sa0, Dk.q_sa1, Dk.q_isn, Dk.q_isb, Dk.q_wipe0, Dk.q_wipe1, lstAt_some l1, nD_len, c0, c1]
    refine (w1 c i bs a hh li hb60).mono ?_ ?_
    · rintro d h2 ⟨rfl, head, n1, qt, rfl⟩
      rw [qt] at q
      dsimp only at q
      obtain ⟨L, hL⟩ : ∃ L, L = head / 2 := ⟨_, rfl⟩
      obtain ⟨b1, hb1⟩ : ∃ b1, b1 = head % 2 := ⟨_, rfl⟩
      have fd : ∀ h, fdivD (.int (head : Int)) (.int 2) h = some (.int (L : Int), h) := fun h => by
        rw [q_fdiv _ _ _ (by decide) (by decide), hL]; norm_cast
      have an : ∀ h, andD (.int (head : Int)) (.int 1) h = some (.int (b1 : Int), h) := fun h => by
        rw [p_and1, hb1]; norm_cast
      rw [← hL, List.drop_drop] at q
      by_cases c2 : L = 0 ∨ count - acc.length < L
      · rw [if_pos c2] at q
        by_cases c3 : L = 0
        · simp [Dd.we_ret, Dd.we_bnd, Dd.we_lift, Dd.we_var, Dd.we_args_nil, Dd.we_args_cons, Dd.we_opN, Dd.we_op1, Dd.we_op2, Dd.we_call, Dd.we_tst, Dd.we_tru, Dd.we_notT, Dd.we_andT, Dd.we_orT, Dd.we_notV, Dd.we_andV, Dd.we_orV, Dd.we_ite, Dd.we_chn, Dd.we_mth, Dd.we_slice, Dd.we_intOf, Dd.nx_next, Dd.nx_ret, Dd.nx_ex, Dd.td_next, Dd.td_cont, Dd.td_brk, Dd.td_ret, Dd.td_ex, Dd.nx_brk, Dd.nx_cont, Dd.wp_skip, Dd.wp_seq, Dd.wp_drop, Dd.wp_ret, Dd.wp_asg, Dd.wp_if, Dd.wp_raise, Dd.wp_set, Dk.wp_aug, Dk.wp_brk, Dk.p_and127, Dk.p_and255, Dk.p_and1, Dk.p_shr8, Dk.p_shr16, Dk.p_shr24, Dk.p_ashr7, Dk.p_ashr8, Dk.p_aadd, Dk.p_asub, Dd.WO, Dk.eq_ss, Dk.ne_ss, Dk.eq_ii, Dk.ne_ii, Dk.isNot_non, Dk.q_add, Dk.q_addt, Dk.q_sub, Dk.q_mod, Dk.q_fdiv, Dk.q_mulr, Dk.q_mull, Dk.q_neg, Dk.q_lt, Dk.q_le, Dk.q_gt, Dk.q_ge, Dk.q_ix0, Dk.q_ix1, Dk.q_ix2, Dk.q_is_t, Dk.q_is_s, Dk.q_is_lt, Dk.q_is_ll, Dk.q_tru, Dk.q_lent, Dk.q_lenr, Dk.q_int, Dk.q_intb, Dk.q_abs, Dk.q_tupr, Dk.q_lstt, Dk.q_lst, Dk.q_tup, Dk.q_oka, Dk.q_oke, Dk.q_okj, Dk.q_app, Dk.q_ext, Dk.q_nm, Dk.q_tp, Dk.q_sa0, Dk.q_sa1, Dk.q_isn, Dk.q_isb, Dk.q_wipe0, Dk.q_wipe1, fd, c3, end_ex]
          exact ⟨g, q⟩
        · have c4 : (count : Int) - (acc.length : Int) < (L : Int) := by omega
          simp [Dd.we_ret, Dd.we_bnd, Dd.we_lift, Dd.we_var, Dd.we_args_nil, Dd.we_args_cons, Dd.we_opN, Dd.we_op1, Dd.we_op2, Dd.we_call, Dd.we_tst, Dd.we_tru, Dd.we_notT, Dd.we_andT, Dd.we_orT, Dd.we_notV, Dd.we_andV, Dd.we_orV, Dd.we_ite, Dd.we_chn, Dd.we_mth, Dd.we_slice, Dd.we_intOf, Dd.nx_next, Dd.nx_ret, Dd.nx_ex, Dd.td_next, Dd.td_cont, Dd.td_brk, Dd.td_ret, Dd.td_ex, Dd.nx_brk, Dd.nx_cont, Dd.wp_skip, Dd.wp_seq, Dd.wp_drop, Dd.wp_ret, Dd.wp_asg, Dd.wp_if, Dd.wp_raise, Dd.wp_set, Dk.wp_aug, Dk.wp_brk, Dk.p_and127, Dk.p_and255, Dk.p_and1, Dk.p_shr8, Dk.p_shr16, Dk.p_shr24, Dk.p_ashr7, Dk.p_ashr8, Dk.p_aadd, Dk.p_asub, Dd.WO, Dk.eq_ss, Dk.ne_ss, Dk.eq_ii, Dk.ne_ii, Dk.isNot_non, Dk.q_add, Dk.q_addt, Dk.q_sub, Dk.q_mod, Dk.q_fdiv, Dk.q_mulr, Dk.q_mull, Dk.q_neg, Dk.q_lt, Dk.q_le, Dk.q_gt, Dk.q_ge, Dk.q_ix0, Dk.q_ix1, Dk.q_ix2, Dk.q_is_t, Dk.q_is_s, Dk.q_is_lt, Dk.q_is_ll, Dk.q_tru, Dk.q_lent, Dk.q_lenr, Dk.q_int, Dk.q_intb, Dk.q_abs, Dk.q_tupr, Dk.q_lstt, Dk.q_lst, Dk.q_tup, Dk.q_oka, Dk.q_oke, Dk.q_okj, Dk.q_app, Dk.q_ext, Dk.q_nm, Dk.q_tp, Dk.q_sa0, Dk.q_sa1, Dk.q_isn, Dk.q_isb, Dk.q_wipe0, Dk.q_wipe1, fd, c3, end_ex, lstAt_some l1, nD_len, c4]
          exact ⟨g, q⟩
      · rw [if_neg c2] at q
        have c3 : ¬ L = 0 := fun z => c2 (.inl z)
        have c4 : ¬ (count : Int) - (acc.length : Int) < (L : Int) := by omega
        have al : acc.length + L ≤ count := by omega
        by_cases c5 : b1 = 1
        · simp [Dd.we_ret, Dd.we_bnd, Dd.we_lift, Dd.we_var, Dd.we_args_nil, Dd.we_args_cons, Dd.we_opN, Dd.we_op1, Dd.we_op2, Dd.we_call, Dd.we_tst, Dd.we_tru, Dd.we_notT, Dd.we_andT, Dd.we_orT, Dd.we_notV, Dd.we_andV, Dd.we_orV, Dd.we_ite, Dd.we_chn, Dd.we_mth, Dd.we_slice, Dd.we_intOf, Dd.nx_next, Dd.nx_ret, Dd.nx_ex, Dd.td_next, Dd.td_cont, Dd.td_brk, Dd.td_ret, Dd.td_ex, Dd.nx_brk, Dd.nx_cont, Dd.wp_skip, Dd.wp_seq, Dd.wp_drop, Dd.wp_ret, Dd.wp_asg, Dd.wp_if, Dd.wp_raise, Dd.wp_set, Dk.wp_aug, Dk.wp_brk, Dk.p_and127, Dk.p_and255, Dk.p_and1, Dk.p_shr8, Dk.p_shr16, Dk.p_shr24, Dk.p_ashr7, Dk.p_ashr8, Dk.p_aadd, Dk.p_asub, Dd.WO, Dk.eq_ss, Dk.ne_ss, Dk.eq_ii, Dk.ne_ii, Dk.isNot_non, Dk.q_add, Dk.q_addt, Dk.q_sub, Dk.q_mod, Dk.q_fdiv, Dk.q_mulr, Dk.q_mull, Dk.q_neg, Dk.q_lt, Dk.q_le, Dk.q_gt, Dk.q_ge, Dk.q_ix0, Dk.q_ix1, Dk.q_ix2, Dk.q_is_t, Dk.q_is_s, Dk.q_is_lt, Dk.q_is_ll, Dk.q_tru, Dk.q_lent, Dk.q_lenr, Dk.q_int, Dk.q_intb, Dk.q_abs, Dk.q_tupr, Dk.q_lstt, Dk.q_lst, Dk.q_tup, Dk.q_oka, Dk.q_oke, Dk.q_okj, Dk.q_app, Dk.q_ext, Dk.q_nm, Dk.q_tp, Dk.q_sa0, Dk.q_sa1, Dk.q_isn, Dk.q_isb, Dk.q_wipe0, Dk.q_wipe1, fd, an, c3, lstAt_some l1, nD_len, c4, c5]
          refine (w8i c i bs (a + n1) L w h2 _ (by omega) li hb wle (by omega) w0 (by omega)).mono ?_ ?_
          · rintro d h3 ⟨f, ps, l2, rfl, hf, g3, l3, pl, qp⟩
            have qp' : piece w head (bs.drop (a + n1)) = some (ps, l2) := by unfold piece; rw [if_pos (by omega), ← hL]; exact qp
            rw [qp'] at q
            dsimp only at q
            obtain ⟨mx, e1, e2⟩ := max_of l3 (by intro z; rw [z] at pl; rw [List.length_nil] at pl; omega)
            have l1' := g3.lst l1
            by_cases c6 : ps.all (fun x => decide (x ≤ most)) = true
            · rw [if_pos c6] at q
              have c7 : ¬ (most : Int) < (mx : Int) := by have := (e2 most).mpr c6; omega
              have z1 : acc.length + ps.length ≤ Z := by omega
              simp [Dd.we_ret, Dd.we_bnd, Dd.we_lift, Dd.we_var, Dd.we_args_nil, Dd.we_args_cons, Dd.we_opN, Dd.we_op1, Dd.we_op2, Dd.we_call, Dd.we_tst, Dd.we_tru, Dd.we_notT, Dd.we_andT, Dd.we_orT, Dd.we_notV, Dd.we_andV, Dd.we_orV, Dd.we_ite, Dd.we_chn, Dd.we_mth, Dd.we_slice, Dd.we_intOf, Dd.nx_next, Dd.nx_ret, Dd.nx_ex, Dd.td_next, Dd.td_cont, Dd.td_brk, Dd.td_ret, Dd.td_ex, Dd.nx_brk, Dd.nx_cont, Dd.wp_skip, Dd.wp_seq, Dd.wp_drop, Dd.wp_ret, Dd.wp_asg, Dd.wp_if, Dd.wp_raise, Dd.wp_set, Dk.wp_aug, Dk.wp_brk, Dk.p_and127, Dk.p_and255, Dk.p_and1, Dk.p_shr8, Dk.p_shr16, Dk.p_shr24, Dk.p_ashr7, Dk.p_ashr8, Dk.p_aadd, Dk.p_asub, Dd.WO, Dk.eq_ss, Dk.ne_ss, Dk.eq_ii, Dk.ne_ii, Dk.isNot_non, Dk.q_add, Dk.q_addt, Dk.q_sub, Dk.q_mod, Dk.q_fdiv, Dk.q_mulr, Dk.q_mull, Dk.q_neg, Dk.q_lt, Dk.q_le, Dk.q_gt, Dk.q_ge, Dk.q_ix0, Dk.q_ix1, Dk.q_ix2, Dk.q_is_t, Dk.q_is_s, Dk.q_is_lt, Dk.q_is_ll, Dk.q_tru, Dk.q_lent, Dk.q_lenr, Dk.q_int, Dk.q_intb, Dk.q_abs, Dk.q_tupr, Dk.q_lstt, Dk.q_lst, Dk.q_tup, Dk.q_oka, Dk.q_oke, Dk.q_okj, Dk.q_app, Dk.q_ext, Dk.q_nm, Dk.q_tp, Dk.q_sa0, Dk.q_sa1, Dk.q_isn, Dk.q_isb, Dk.q_wipe0, Dk.q_wipe1, e1, c7, l1', l3, nD_len, z1]
              refine ⟨acc ++ ps, a + (n1 + l2), _, _, _, _, by rw [show (a : Int) + (n1 : Int) + (l2 : Int) = ((a + (n1 + l2) : Nat) : Int) from by omega], (g.trans g3).set _ (Nat.le_refl _), by rw [lst_set l1', nD_app], by rw [List.length_append]; omega, by rw [List.length_append]; omega, by omega, ?_⟩
              rw [q, List.drop_drop, List.length_append, pl, Nat.sub_sub]
              cases tkL w most m (count - (acc.length + L)) (bs.drop (a + (n1 + l2))) with
              | none => rfl
              | some x =>
                simp only [Option.map_some, List.append_assoc, Option.some.injEq, Prod.mk.injEq]
                exact ⟨trivial, by omega⟩
            · rw [if_neg c6] at q
              have c7 : (most : Int) < (mx : Int) := Int.ofNat_lt.mpr (Nat.lt_of_not_le fun z => c6 ((e2 most).mp z))
              simp [Dd.we_ret, Dd.we_bnd, Dd.we_lift, Dd.we_var, Dd.we_args_nil, Dd.we_args_cons, Dd.we_opN, Dd.we_op1, Dd.we_op2, Dd.we_call, Dd.we_tst, Dd.we_tru, Dd.we_notT, Dd.we_andT, Dd.we_orT, Dd.we_notV, Dd.we_andV, Dd.we_orV, Dd.we_ite, Dd.we_chn, Dd.we_mth, Dd.we_slice, Dd.we_intOf, Dd.nx_next, Dd.nx_ret, Dd.nx_ex, Dd.td_next, Dd.td_cont, Dd.td_brk, Dd.td_ret, Dd.td_ex, Dd.nx_brk, Dd.nx_cont, Dd.wp_skip, Dd.wp_seq, Dd.wp_drop, Dd.wp_ret, Dd.wp_asg, Dd.wp_if, Dd.wp_raise, Dd.wp_set, Dk.wp_aug, Dk.wp_brk, Dk.p_and127, Dk.p_and255, Dk.p_and1, Dk.p_shr8, Dk.p_shr16, Dk.p_shr24, Dk.p_ashr7, Dk.p_ashr8, Dk.p_aadd, Dk.p_asub, Dd.WO, Dk.eq_ss, Dk.ne_ss, Dk.eq_ii, Dk.ne_ii, Dk.isNot_non, Dk.q_add, Dk.q_addt, Dk.q_sub, Dk.q_mod, Dk.q_fdiv, Dk.q_mulr, Dk.q_mull, Dk.q_neg, Dk.q_lt, Dk.q_le, Dk.q_gt, Dk.q_ge, Dk.q_ix0, Dk.q_ix1, Dk.q_ix2, Dk.q_is_t, Dk.q_is_s, Dk.q_is_lt, Dk.q_is_ll, Dk.q_tru, Dk.q_lent, Dk.q_lenr, Dk.q_int, Dk.q_intb, Dk.q_abs, Dk.q_tupr, Dk.q_lstt, Dk.q_lst, Dk.q_tup, Dk.q_oka, Dk.q_oke, Dk.q_okj, Dk.q_app, Dk.q_ext, Dk.q_nm, Dk.q_tp, Dk.q_sa0, Dk.q_sa1, Dk.q_isn, Dk.q_isb, Dk.q_wipe0, Dk.q_wipe1, e1, c7, end_ex]
              exact ⟨g.trans g3, q⟩
          · rintro c p h3 ⟨rfl, g3, qp⟩
            have qp' : piece w head (bs.drop (a + n1)) = none := by unfold piece; rw [if_pos (by omega), ← hL]; exact qp
            rw [qp'] at q
            simp [Dd.we_ret, Dd.we_bnd, Dd.we_lift, Dd.we_var, Dd.we_args_nil, Dd.we_args_cons, Dd.we_opN, Dd.we_op1, Dd.we_op2, Dd.we_call, Dd.we_tst, Dd.we_tru, Dd.we_notT, Dd.we_andT, Dd.we_orT, Dd.we_notV, Dd.we_andV, Dd.we_orV, Dd.we_ite, Dd.we_chn, Dd.we_mth, Dd.we_slice, Dd.we_intOf, Dd.nx_next, Dd.nx_ret, Dd.nx_ex, Dd.td_next, Dd.td_cont, Dd.td_brk, Dd.td_ret, Dd.td_ex, Dd.nx_brk, Dd.nx_cont, Dd.wp_skip, Dd.wp_seq, Dd.wp_drop, Dd.wp_ret, Dd.wp_asg, Dd.wp_if, Dd.wp_raise, Dd.wp_set, Dk.wp_aug, Dk.wp_brk, Dk.p_and127, Dk.p_and255, Dk.p_and1, Dk.p_shr8, Dk.p_shr16, Dk.p_shr24, Dk.p_ashr7, Dk.p_ashr8, Dk.p_aadd, Dk.p_asub, Dd.WO, Dk.eq_ss, Dk.ne_ss, Dk.eq_ii, Dk.ne_ii, Dk.isNot_non, Dk.q_add, Dk.q_addt, Dk.q_sub, Dk.q_mod, Dk.q_fdiv, Dk.q_mulr, Dk.q_mull, Dk.q_neg, Dk.q_lt, Dk.q_le, Dk.q_gt, Dk.q_ge, Dk.q_ix0, Dk.q_ix1, Dk.q_ix2, Dk.q_is_t, Dk.q_is_s, Dk.q_is_lt, Dk.q_is_ll, Dk.q_tru, Dk.q_lent, Dk.q_lenr, Dk.q_int, Dk.q_intb, Dk.q_abs, Dk.q_tupr, Dk.q_lstt, Dk.q_lst, Dk.q_tup, Dk.q_oka, Dk.q_oke, Dk.q_okj, Dk.q_app, Dk.q_ext, Dk.q_nm, Dk.q_tp, Dk.q_sa0, Dk.q_sa1, Dk.q_isn, Dk.q_isb, Dk.q_wipe0, Dk.q_wipe1, end_ex]
            exact ⟨g.trans g3, q⟩
        · have c5' : ¬ (b1 : Int) = 1 := by omega
          simp [Dd.we_ret, Dd.we_bnd, Dd.we_lift, Dd.we_var, Dd.we_args_nil, Dd.we_args_cons, Dd.we_opN, Dd.we_op1, Dd.we_op2, Dd.we_call, Dd.we_tst, Dd.we_tru, Dd.we_notT, Dd.we_andT, Dd.we_orT, Dd.we_notV, Dd.we_andV, Dd.we_orV, Dd.we_ite, Dd.we_chn, Dd.we_mth, Dd.we_slice, Dd.we_intOf, Dd.nx_next, Dd.nx_ret, Dd.nx_ex, Dd.td_next, Dd.td_cont, Dd.td_brk, Dd.td_ret, Dd.td_ex, Dd.nx_brk, Dd.nx_cont, Dd.wp_skip, Dd.wp_seq, Dd.wp_drop, Dd.wp_ret, Dd.wp_asg, Dd.wp_if, Dd.wp_raise, Dd.wp_set, Dk.wp_aug, Dk.wp_brk, Dk.p_and127, Dk.p_and255, Dk.p_and1, Dk.p_shr8, Dk.p_shr16, Dk.p_shr24, Dk.p_ashr7, Dk.p_ashr8, Dk.p_aadd, Dk.p_asub, Dd.WO, Dk.eq_ss, Dk.ne_ss, Dk.eq_ii, Dk.ne_ii, Dk.isNot_non, Dk.q_add, Dk.q_addt, Dk.q_sub, Dk.q_mod, Dk.q_fdiv, Dk.q_mulr, Dk.q_mull, Dk.q_neg, Dk.q_lt, Dk.q_le, Dk.q_gt, Dk.q_ge, Dk.q_ix0, Dk.q_ix1, Dk.q_ix2, Dk.q_is_t, Dk.q_is_s, Dk.q_is_lt, Dk.q_is_ll, Dk.q_tru, Dk.q_lent, Dk.q_lenr, Dk.q_int, Dk.q_intb, Dk.q_abs, Dk.q_tupr, Dk.q_lstt, Dk.q_lst, Dk.q_tup, Dk.q_oka, Dk.q_oke, Dk.q_okj, Dk.q_app, Dk.q_ext, Dk.q_nm, Dk.q_tp, Dk.q_sa0, Dk.q_sa1, Dk.q_isn, Dk.q_isb, Dk.q_wipe0, Dk.q_wipe1, fd, an, c3, lstAt_some l1, nD_len, c4, c5, c5']
          refine (w1i c i bs (a + n1) h2 _ (by omega) li hb60).mono ?_ ?_
          · rintro d h3 ⟨rfl, v, l2, qp, rfl⟩
            have qp' : piece w head (bs.drop (a + n1)) = some (List.replicate L v, l2) := by unfold piece; rw [if_neg (by omega), ← hL, qp]; rfl
            rw [qp'] at q
            dsimp only at q
            have bl : below (L : Int) 9223372036854775808 = true := below_iff.mpr (by omega)
            have l3 : lstAt (h3 ++ [Ob.lst [D.int (v : Int)]]) h3.length = some [D.int (v : Int)] := lst_new
            have nr : nD (List.replicate L v) = List.replicate L (D.int (v : Int)) := List.map_replicate
            have l4 : lstAt (h3 ++ [Ob.lst [D.int (v : Int)], Ob.lst (List.replicate L (D.int (v : Int)))]) (h3.length + 1) = some (nD (List.replicate L v)) := by rw [nr]; exact lst_app (k := 1) rfl rfl
            have l5 : lstAt (h3 ++ [Ob.lst [D.int (v : Int)], Ob.lst (List.replicate L (D.int (v : Int)))]) h'.length = some (nD acc) := (Grow.lst ⟨_, rfl⟩ l1)
            have g5 : Grow h' (h3 ++ [Ob.lst [D.int (v : Int)], Ob.lst (List.replicate L (D.int (v : Int)))]) := g.trans ⟨_, rfl⟩
            have cz : L ≤ Z := by omega
            obtain ⟨mx, e1, e2⟩ := max_of l4 (by intro z; have := congrArg List.length z; rw [List.length_replicate, List.length_nil] at this; omega)
            by_cases c6 : (List.replicate L v).all (fun x => decide (x ≤ most)) = true
            · rw [if_pos c6] at q
              have c7 : ¬ (most : Int) < (mx : Int) := by have := (e2 most).mpr c6; omega
              have z1 : acc.length + (List.replicate L v).length ≤ Z := by rw [List.length_replicate]; omega
              simp only [List.length_replicate] at z1
              simp [Dd.we_ret, Dd.we_bnd, Dd.we_lift, Dd.we_var, Dd.we_args_nil, Dd.we_args_cons, Dd.we_opN, Dd.we_op1, Dd.we_op2, Dd.we_call, Dd.we_tst, Dd.we_tru, Dd.we_notT, Dd.we_andT, Dd.we_orT, Dd.we_notV, Dd.we_andV, Dd.we_orV, Dd.we_ite, Dd.we_chn, Dd.we_mth, Dd.we_slice, Dd.we_intOf, Dd.nx_next, Dd.nx_ret, Dd.nx_ex, Dd.td_next, Dd.td_cont, Dd.td_brk, Dd.td_ret, Dd.td_ex, Dd.nx_brk, Dd.nx_cont, Dd.wp_skip, Dd.wp_seq, Dd.wp_drop, Dd.wp_ret, Dd.wp_asg, Dd.wp_if, Dd.wp_raise, Dd.wp_set, Dk.wp_aug, Dk.wp_brk, Dk.p_and127, Dk.p_and255, Dk.p_and1, Dk.p_shr8, Dk.p_shr16, Dk.p_shr24, Dk.p_ashr7, Dk.p_ashr8, Dk.p_aadd, Dk.p_asub, Dd.WO, Dk.eq_ss, Dk.ne_ss, Dk.eq_ii, Dk.ne_ii, Dk.isNot_non, Dk.q_add, Dk.q_addt, Dk.q_sub, Dk.q_mod, Dk.q_fdiv, Dk.q_mulr, Dk.q_mull, Dk.q_neg, Dk.q_lt, Dk.q_le, Dk.q_gt, Dk.q_ge, Dk.q_ix0, Dk.q_ix1, Dk.q_ix2, Dk.q_is_t, Dk.q_is_s, Dk.q_is_lt, Dk.q_is_ll, Dk.q_tru, Dk.q_lent, Dk.q_lenr, Dk.q_int, Dk.q_intb, Dk.q_abs, Dk.q_tupr, Dk.q_lstt, Dk.q_lst, Dk.q_tup, Dk.q_oka, Dk.q_oke, Dk.q_okj, Dk.q_app, Dk.q_ext, Dk.q_nm, Dk.q_tp, Dk.q_sa0, Dk.q_sa1, Dk.q_isn, Dk.q_isb, Dk.q_wipe0, Dk.q_wipe1, q_mulr', l3, bl, cz, newOb, e1, c7, l5, l4, nD_len, z1]
              refine ⟨acc ++ List.replicate L v, a + (n1 + l2), _, _, _, _, by rw [show (a : Int) + (n1 : Int) + (l2 : Int) = ((a + (n1 + l2) : Nat) : Int) from by omega], g5.set _ (Nat.le_refl _), by rw [lst_set l5, nD_app], by rw [List.length_append, List.length_replicate]; omega, by rw [List.length_append, List.length_replicate]; omega, by omega, ?_⟩
              rw [q, List.drop_drop, List.length_append, List.length_replicate, Nat.sub_sub]
              cases tkL w most m (count - (acc.length + L)) (bs.drop (a + (n1 + l2))) with
              | none => rfl
              | some x =>
                simp only [Option.map_some, List.append_assoc, Option.some.injEq, Prod.mk.injEq]
                exact ⟨trivial, by omega⟩
            · rw [if_neg c6] at q
              have c7 : (most : Int) < (mx : Int) := Int.ofNat_lt.mpr (Nat.lt_of_not_le fun z => c6 ((e2 most).mp z))
              simp [Dd.we_ret, Dd.we_bnd, Dd.we_lift, Dd.we_var, Dd.we_args_nil, Dd.we_args_cons, Dd.we_opN, Dd.we_op1, Dd.we_op2, Dd.we_call, Dd.we_tst, Dd.we_tru, Dd.we_notT, Dd.we_andT, Dd.we_orT, Dd.we_notV, Dd.we_andV, Dd.we_orV, Dd.we_ite, Dd.we_chn, Dd.we_mth, Dd.we_slice, Dd.we_intOf, Dd.nx_next, Dd.nx_ret, Dd.nx_ex, Dd.td_next, Dd.td_cont, Dd.td_brk, Dd.td_ret, Dd.td_ex, Dd.nx_brk, Dd.nx_cont, Dd.wp_skip, Dd.wp_seq, Dd.wp_drop, Dd.wp_ret, Dd.wp_asg, Dd.wp_if, Dd.wp_raise, Dd.wp_set, Dk.wp_aug, Dk.wp_brk, Dk.p_and127, Dk.p_and255, Dk.p_and1, Dk.p_shr8, Dk.p_shr16, Dk.p_shr24, Dk.p_ashr7, Dk.p_ashr8, Dk.p_aadd, Dk.p_asub, Dd.WO, Dk.eq_ss, Dk.ne_ss, Dk.eq_ii, Dk.ne_ii, Dk.isNot_non, Dk.q_add, Dk.q_addt, Dk.q_sub, Dk.q_mod, Dk.q_fdiv, Dk.q_mulr, Dk.q_mull, Dk.q_neg, Dk.q_lt, Dk.q_le, Dk.q_gt, Dk.q_ge, Dk.q_ix0, Dk.q_ix1, Dk.q_ix2, Dk.q_is_t, Dk.q_is_s, Dk.q_is_lt, Dk.q_is_ll, Dk.q_tru, Dk.q_lent, Dk.q_lenr, Dk.q_int, Dk.q_intb, Dk.q_abs, Dk.q_tupr, Dk.q_lstt, Dk.q_lst, Dk.q_tup, Dk.q_oka, Dk.q_oke, Dk.q_okj, Dk.q_app, Dk.q_ext, Dk.q_nm, Dk.q_tp, Dk.q_sa0, Dk.q_sa1, Dk.q_isn, Dk.q_isb, Dk.q_wipe0, Dk.q_wipe1, q_mulr', l3, bl, cz, newOb, e1, c7, end_ex]
              exact ⟨g5, q⟩
          · rintro c p h3 ⟨rfl, rfl, qp⟩
            have qp' : piece w head (bs.drop (a + n1)) = none := by unfold piece; rw [if_neg (by omega), qp]; rfl
            rw [qp'] at q
            simp [Dd.we_ret, Dd.we_bnd, Dd.we_lift, Dd.we_var, Dd.we_args_nil, Dd.we_args_cons, Dd.we_opN, Dd.we_op1, Dd.we_op2, Dd.we_call, Dd.we_tst, Dd.we_tru, Dd.we_notT, Dd.we_andT, Dd.we_orT, Dd.we_notV, Dd.we_andV, Dd.we_orV, Dd.we_ite, Dd.we_chn, Dd.we_mth, Dd.we_slice, Dd.we_intOf, Dd.nx_next, Dd.nx_ret, Dd.nx_ex, Dd.td_next, Dd.td_cont, Dd.td_brk, Dd.td_ret, Dd.td_ex, Dd.nx_brk, Dd.nx_cont, Dd.wp_skip, Dd.wp_seq, Dd.wp_drop, Dd.wp_ret, Dd.wp_asg, Dd.wp_if, Dd.wp_raise, Dd.wp_set, Dk.wp_aug, Dk.wp_brk, Dk.p_and127, Dk.p_and255, Dk.p_and1, Dk.p_shr8, Dk.p_shr16, Dk.p_shr24, Dk.p_ashr7, Dk.p_ashr8, Dk.p_aadd, Dk.p_asub, Dd.WO, Dk.eq_ss, Dk.ne_ss, Dk.eq_ii, Dk.ne_ii, Dk.isNot_non, Dk.q_add, Dk.q_addt, Dk.q_sub, Dk.q_mod, Dk.q_fdiv, Dk.q_mulr, Dk.q_mull, Dk.q_neg, Dk.q_lt, Dk.q_le, Dk.q_gt, Dk.q_ge, Dk.q_ix0, Dk.q_ix1, Dk.q_ix2, Dk.q_is_t, Dk.q_is_s, Dk.q_is_lt, Dk.q_is_ll, Dk.q_tru, Dk.q_lent, Dk.q_lenr, Dk.q_int, Dk.q_intb, Dk.q_abs, Dk.q_tupr, Dk.q_lstt, Dk.q_lst, Dk.q_tup, Dk.q_oka, Dk.q_oke, Dk.q_okj, Dk.q_app, Dk.q_ext, Dk.q_nm, Dk.q_tp, Dk.q_sa0, Dk.q_sa1, Dk.q_isn, Dk.q_isb, Dk.q_wipe0, Dk.q_wipe1, end_ex]
            exact ⟨g, q⟩
    · rintro c p h2 ⟨rfl, rfl, qt⟩
      rw [qt] at q
      simp [Dd.we_ret, Dd.we_bnd, Dd.we_lift, Dd.we_var, Dd.we_args_nil, Dd.we_args_cons, Dd.we_opN, Dd.we_op1, Dd.we_op2, Dd.we_call, Dd.we_tst, Dd.we_tru, Dd.we_notT, Dd.we_andT, Dd.we_orT, Dd.we_notV, Dd.we_andV, Dd.we_orV, Dd.we_ite, Dd.we_chn, Dd.we_mth, Dd.we_slice, Dd.we_intOf, Dd.nx_next, Dd.nx_ret, Dd.nx_ex, Dd.td_next, Dd.td_cont, Dd.td_brk, Dd.td_ret, Dd.td_ex, Dd.nx_brk, Dd.nx_cont, Dd.wp_skip, Dd.wp_seq, Dd.wp_drop, Dd.wp_ret, Dd.wp_asg, Dd.wp_if, Dd.wp_raise, Dd.wp_set, Dk.wp_aug, Dk.wp_brk, Dk.p_and127, Dk.p_and255, Dk.p_and1, Dk.p_shr8, Dk.p_shr16, Dk.p_shr24, Dk.p_ashr7, Dk.p_ashr8, Dk.p_aadd, Dk.p_asub, Dd.WO, Dk.eq_ss, Dk.ne_ss, Dk.eq_ii, Dk.ne_ii, Dk.isNot_non, Dk.q_add, Dk.q_addt, Dk.q_sub, Dk.q_mod, Dk.q_fdiv, Dk.q_mulr, Dk.q_mull, Dk.q_neg, Dk.q_lt, Dk.q_le, Dk.q_gt, Dk.q_ge, Dk.q_ix0, Dk.q_ix1, Dk.q_ix2, Dk.q_is_t, Dk.q_is_s, Dk.q_is_lt, Dk.q_is_ll, Dk.q_tru, Dk.q_lent, Dk.q_lenr, Dk.q_int, Dk.q_intb, Dk.q_abs, Dk.q_tupr, Dk.q_lstt, Dk.q_lst, Dk.q_tup, Dk.q_oka, Dk.q_oke, Dk.q_okj, Dk.q_app, Dk.q_ext, Dk.q_nm, Dk.q_tp, Dk.q_sa0, Dk.q_sa1, Dk.q_isn, Dk.q_isb, Dk.q_wipe0, Dk.q_wipe1, end_ex]
      exact ⟨g, q⟩
  · have c1 : ¬ (acc.length : Int) < (count : Int) := by omega
    have full : count - acc.length = 0 := by omega
    have q2 : tkL w most count count (bs.drop a0) = some (acc, a - a0) := by
      rw [q, full]
      cases n with
      | zero => rw [tkL, if_pos rfl]; simp
      | succ n => rw [tkL, if_pos rfl]; simp
    simp [Dd.we_ret, Dd.we_bnd, Dd.we_lift, Dd.we_var, Dd.we_args_nil, Dd.we_args_cons, Dd.we_opN, Dd.we_op1, Dd.we_op2, Dd.we_call, Dd.we_tst, Dd.we_tru, Dd.we_notT, Dd.we_andT, Dd.we_orT, Dd.we_notV, Dd.we_andV, Dd.we_orV, Dd.we_ite, Dd.we_chn, Dd.we_mth, Dd.we_slice, Dd.we_intOf, Dd.nx_next, Dd.nx_ret, Dd.nx_ex, Dd.td_next, Dd.td_cont, Dd.td_brk, Dd.td_ret, Dd.td_ex, Dd.nx_brk, Dd.nx_cont, Dd.wp_skip, Dd.wp_seq, Dd.wp_drop, Dd.wp_ret, Dd.wp_asg, Dd.wp_if, Dd.wp_raise, Dd.wp_set, Dk.wp_aug, Dk.wp_brk, Dk.p_and127, Dk.p_and255, Dk.p_and1, Dk.p_shr8, Dk.p_shr16, Dk.p_shr24, Dk.p_ashr7, Dk.p_ashr8, Dk.p_aadd, Dk.p_asub, Dd.WO, Dk.eq_ss, Dk.ne_ss, Dk.eq_ii, Dk.ne_ii, Dk.isNot_non, Dk.q_add, Dk.q_addt, Dk.q_sub, Dk.q_mod, Dk.q_fdiv, Dk.q_mulr, Dk.q_mull, Dk.q_neg, Dk.q_lt, Dk.q_le, Dk.q_gt, Dk.q_ge, Dk.q_ix0, Dk.q_ix1, Dk.q_ix2, Dk.q_is_t, Dk.q_is_s, Dk.q_is_lt, Dk.q_is_ll, Dk.q_tru, Dk.q_lent, Dk.q_lenr, Dk.q_int, Dk.q_intb, Dk.q_abs, Dk.q_tupr, Dk.q_lstt, Dk.q_lst, Dk.q_tup, Dk.q_oka, Dk.q_oke, Dk.q_okj, Dk.q_app, Dk.q_ext, Dk.q_nm, Dk.q_tp, Dk.q_sa0, Dk.q_sa1, Dk.q_isn, Dk.q_isb, Dk.q_wipe0, Dk.q_wipe1, lstAt_some l1, nD_len, c0, c1, end_ret]
    exact ⟨_, _, a - a0, ⟨rfl, by omega⟩, by omega, g, l1, q2⟩
end Dk

set_option Elab.async false
set_option linter.all false
set_option maxRecDepth 100000
set_option maxHeartbeats 4000000
namespace Dk
open PySem PySem.Spec PyProof.Rows L2 Dd

theorem numB_ne (n : Nat) : numB n ≠ [] := by
  by_cases h : n < 128
  · rw [numB_lt h]; exact List.cons_ne_nil _ _
  · rw [numB_ge h]; exact List.cons_ne_nil _ _
theorem numB_lt256 (n : Nat) : ∀ b ∈ numB n, b < 256 := by
  induction n using Nat.strongRecOn with
  | ind n ih =>
    intro b hb
    by_cases h : n < 128
    · rw [numB_lt h] at hb
      rw [List.mem_singleton.mp hb]; omega
    · rw [numB_ge h] at hb
      rcases List.mem_cons.mp hb with rfl | hb
      · omega
      · exact ih _ (by omega) b hb
theorem tk_numB {r p n : Nat} (rest : List Nat) (h : n < 128 ^ (r + 1)) (h0 : p = 0 ∨ n ≠ 0) : tk (r + 1) p (numB n ++ rest) = some (n, (numB n).length) := by
  induction r generalizing p n with
  | zero =>
    have c : n < 128 := by omega
    rw [numB_lt c, List.singleton_append, tk, if_pos c, if_neg (by omega)]; rfl
  | succ r ih =>
    by_cases c : n < 128
    · rw [numB_lt c, List.singleton_append, tk, if_pos c, if_neg (by omega)]; rfl
    · rw [numB_ge c, List.cons_append, tk, if_neg (by omega), ih (by rw [Nat.pow_succ] at h; exact Nat.div_lt_of_lt_mul (by rw [Nat.mul_comm]; exact h)) (.inr (by omega))]
      simp only [Option.map_some, List.length_cons, Option.some.injEq, Prod.mk.injEq]
      exact ⟨by omega, trivial⟩
theorem tk_cut {r p n : Nat} : tk r p (numB n).dropLast = none := by
  induction r generalizing p n with
  | zero => rfl
  | succ r ih =>
    by_cases c : n < 128
    · rw [numB_lt c]; rfl
    · rw [numB_ge c, List.dropLast_cons_of_ne_nil (numB_ne _), tk, if_neg (by omega), ih]; rfl
theorem unp_pack {w : Nat} {xs : List Nat} (rest : List Nat) (hx : ∀ x ∈ xs, x < 2 ^ w) : unp w xs.length (packB w xs ++ rest) = some (xs, (packB w xs).length) := by
  unfold unp
  have hl : (xs.length * w + 7) / 8 = (packB w xs).length := (packB_len w xs).symm
  rw [hl, List.take_left, valN_packB hx, if_pos ⟨by rw [List.length_append]; omega, valN_lt hx⟩, digN_valN hx]
theorem unp_short {w k : Nat} {bs : List Nat} (h : bs.length < (k * w + 7) / 8) : unp w k bs = none := by
  unfold unp
  rw [if_neg (by omega)]
theorem valN_app (w : Nat) (a b : List Nat) : valN w (a ++ b) = valN w a + 2 ^ (w * a.length) * valN w b := by
  induction a with
  | nil => simp [valN]
  | cons x a ih => rw [List.cons_append, valN, valN, ih, List.length_cons, Nat.mul_succ, Nat.pow_add, Nat.mul_add, Nat.add_assoc, Nat.mul_left_comm, ← Nat.mul_assoc, Nat.mul_assoc]
theorem unp_bits {w k : Nat} {bs : List Nat} (h : k * w % 8 > 0) (hl : bs.length + 1 = (k * w + 7) / 8) : unp w k (bs ++ [255]) = none := by
  unfold unp
  rw [if_neg]
  rintro ⟨-, z⟩
  rw [← hl, List.take_of_length_le (by rw [List.length_append]; exact Nat.le_refl _), valN_app] at z
  have h1 : 2 ^ (w * k) ≤ 2 ^ (8 * bs.length + 7) := Nat.pow_le_pow_right (by decide) (by rw [Nat.mul_comm w]; omega)
  rw [Nat.pow_add] at h1
  have h2 : 2 ^ (8 * bs.length) * 2 ^ 7 ≤ 2 ^ (8 * bs.length) * valN 8 [255] := Nat.mul_le_mul_left _ (by decide)
  omega
theorem run_rep (x : Nat) (xs : List Nat) : (x :: xs).take (run (x :: xs)) = List.replicate (run (x :: xs)) x := by
  have go : ∀ ys : List Nat, ys.take (eqs x ys) = List.replicate (eqs x ys) x := by
    intro ys
    induction ys with
    | nil => rfl
    | cons y ys ih =>
      rw [eqs]
      split
      · rename_i h
        rw [List.take_succ_cons, List.replicate_succ, ih, h]
      · rfl
  rw [run, List.take_succ_cons, List.replicate_succ, go]
theorem lawL_ne {w : Nat} {xs : List Nat} (h : xs ≠ []) : lawL w xs ≠ [] := by
  cases xs with
  | nil => exact absurd rfl h
  | cons x xs =>
    by_cases c : 4 ≤ run (x :: xs)
    · rw [lawL_run c]
      simp [numB_ne]
    · rw [lawL_piece c]
      unfold pc
      simp [numB_ne]
theorem tkL_law {w most : Nat} (hw : w ≤ 64) (w0 : w ≠ 0) (n : Nat) (xs rest : List Nat) (hn : xs.length ≤ n) (hz : n ≤ 1000000) (hm : most < 34359738368) (hx : ∀ x ∈ xs, x ≤ most ∧ x < 2 ^ w) : tkL w most n xs.length (lawL w xs ++ rest) = some (xs, (lawL w xs).length) ∧ (xs ≠ [] → tkL w most n xs.length (lawL w xs).dropLast = none) := by
  induction n generalizing xs with
  | zero =>
    have : xs = [] := List.length_eq_zero_iff.mp (by omega)
    subst this
    exact ⟨by rw [lawL_nil]; rfl, fun z => absurd rfl z⟩
  | succ n ih =>
    cases xs with
    | nil => exact ⟨by rw [lawL_nil]; rfl, fun z => absurd rfl z⟩
    | cons x xs =>
      have hx0 := hx x List.mem_cons_self
      have rl := run_le (x :: xs)
      have c0 : ¬ (x :: xs).length = 0 := by simp
      by_cases c : 4 ≤ run (x :: xs)
      · obtain ⟨r, hr⟩ : ∃ r, r = run (x :: xs) := ⟨_, rfl⟩
        have rep := run_rep x xs
        rw [lawL_run c]
        rw [← hr] at c rl rep ⊢
        have ih2 := ih ((x :: xs).drop r) (by rw [List.length_drop]; omega) (by omega) fun y hy => hx y (List.mem_of_mem_drop hy)
        have all : (List.replicate r x).all (fun y => decide (y ≤ most)) = true := by
          rw [List.all_eq_true]; intro y hy
          rw [(List.mem_replicate.mp hy).2, decide_eq_true_eq]; exact hx0.1
        have back : List.replicate r x ++ (x :: xs).drop r = x :: xs := by rw [← rep, List.take_append_drop]
        have step : ∀ t, tkL w most (n + 1) (x :: xs).length (numB (2 * r) ++ (numB x ++ t)) = (tkL w most n ((x :: xs).drop r).length t).map fun y => (List.replicate r x ++ y.1, (numB (2 * r)).length + (numB x).length + y.2) := fun t => by
          rw [tkL, if_neg c0, tk_numB _ (by omega) (.inl rfl)]
          dsimp only
          rw [show 2 * r / 2 = r from by omega, if_neg (by omega), List.drop_left]
          have pq : piece w (2 * r) (numB x ++ t) = some (List.replicate r x, (numB x).length) := by
            unfold piece
            rw [if_neg (by omega), tk_numB _ (by omega) (.inl rfl), show 2 * r / 2 = r from by omega]; rfl
          rw [pq]
          dsimp only
          rw [if_pos all, ← List.drop_drop, List.drop_left, List.drop_left, List.length_drop]
        refine ⟨?_, fun _ => ?_⟩
        · rw [List.append_assoc, List.append_assoc, step, ih2.1]
          simp only [Option.map_some, back, List.length_append, Nat.add_assoc]
        · by_cases c1 : (x :: xs).drop r = []
          · rw [c1, lawL_nil, List.append_nil, List.dropLast_append_of_ne_nil (numB_ne _)]
            rw [tkL, if_neg c0, tk_numB _ (by omega) (.inl rfl)]
            dsimp only
            rw [show 2 * r / 2 = r from by omega, if_neg (by omega), List.drop_left]
            have pq : piece w (2 * r) (numB x).dropLast = none := by
              unfold piece
              rw [if_neg (by omega), tk_cut]; rfl
            rw [pq]
          · rw [List.append_assoc, List.dropLast_append_of_ne_nil (by simp [numB_ne]), List.dropLast_append_of_ne_nil (lawL_ne c1), step, ih2.2 c1]; rfl
      · obtain ⟨e, he⟩ : ∃ e, e = pe 1 xs := ⟨_, rfl⟩
        have e1 := pe_ge 1 xs
        have e2 := pe_le 1 xs
        have e3 := pe_le32 1 xs (by decide)
        rw [lawL_piece c]
        rw [← he] at e1 e2 e3 ⊢
        have ih2 := ih ((x :: xs).drop e) (by rw [List.length_drop]; omega) (by omega) fun y hy => hx y (List.mem_of_mem_drop hy)
        obtain ⟨s, hs⟩ : ∃ s, s = (x :: xs).take e := ⟨_, rfl⟩
        have sl : s.length = e := by rw [hs, List.length_take, List.length_cons]; omega
        have all : s.all (fun y => decide (y ≤ most)) = true := by
          rw [List.all_eq_true]; intro y hy
          rw [decide_eq_true_eq]; exact (hx y (by rw [hs] at hy; exact List.mem_of_mem_take hy)).1
        have sx : ∀ y ∈ s, y < 2 ^ w := fun y hy => (hx y (by rw [hs] at hy; exact List.mem_of_mem_take hy)).2
        have back : s ++ (x :: xs).drop e = x :: xs := by rw [hs, List.take_append_drop]
        have el : e ≤ (x :: xs).length := by rw [List.length_cons]; omega
        rw [← hs]
        have step : ∀ t, tkL w most (n + 1) (x :: xs).length (numB (2 * s.length + 1) ++ (packB w s ++ t)) = (tkL w most n ((x :: xs).drop e).length t).map fun y => (s ++ y.1, (numB (2 * s.length + 1)).length + (packB w s).length + y.2) := fun t => by
          rw [tkL, if_neg c0, tk_numB _ (by omega) (.inl rfl)]
          dsimp only
          rw [show (2 * s.length + 1) / 2 = s.length from by omega, if_neg (by omega), List.drop_left]
          have pq : piece w (2 * s.length + 1) (packB w s ++ t) = some (s, (packB w s).length) := by
            unfold piece
            rw [if_pos (by omega), show (2 * s.length + 1) / 2 = s.length from by omega, unp_pack _ sx]
          rw [pq]
          dsimp only
          rw [if_pos all, ← List.drop_drop, List.drop_left, List.drop_left, List.length_drop, sl]
        unfold pc
        refine ⟨?_, fun _ => ?_⟩
        · rw [List.append_assoc, List.append_assoc, step, ih2.1]
          simp only [Option.map_some, back, List.length_append, Nat.add_assoc]
        · by_cases c1 : (x :: xs).drop e = []
          · rw [c1, lawL_nil, List.append_nil]
            have pz : (packB w s).length ≠ 0 := by
              rw [packB_len, sl]
              have : 0 < e * w := Nat.mul_pos e1 (Nat.pos_of_ne_zero w0)
              omega
            have pn : packB w s ≠ [] := fun z => pz (by rw [z]; rfl)
            rw [List.dropLast_append_of_ne_nil pn, tkL, if_neg c0, tk_numB _ (by omega) (.inl rfl)]
            dsimp only
            rw [show (2 * s.length + 1) / 2 = s.length from by omega, if_neg (by omega), List.drop_left]
            have pq : piece w (2 * s.length + 1) (packB w s).dropLast = none := by
              unfold piece
              rw [if_pos (by omega), show (2 * s.length + 1) / 2 = s.length from by omega]
              exact unp_short (by rw [List.length_dropLast, ← packB_len]; omega)
            rw [pq]
          · rw [List.append_assoc, List.dropLast_append_of_ne_nil (by simp [lawL_ne c1]), List.dropLast_append_of_ne_nil (lawL_ne c1), step, ih2.2 c1]; rfl
theorem tkL_more {w most n c : Nat} (hn : c < n) (hz : n ≤ 1000000) (c0 : c ≠ 0) : tkL w most c c (numB (2 * c + 2) ++ [0]) = none := by
  cases c with
  | zero => exact absurd rfl c0
  | succ c =>
    rw [tkL, if_neg (by omega), tk_numB _ (by omega) (.inl rfl)]
    dsimp only
    rw [if_pos (by omega)]
theorem packB_lt (w : Nat) (xs : List Nat) : ∀ b ∈ packB w xs, b < 256 := bytesN_lt _ _
theorem lawL_lt (w n : Nat) (xs : List Nat) (hn : xs.length ≤ n) : ∀ b ∈ lawL w xs, b < 256 := by
  induction n generalizing xs with
  | zero =>
    have : xs = [] := List.length_eq_zero_iff.mp (by omega)
    subst this
    rw [lawL_nil]; intro b hb; cases hb
  | succ n ih =>
    cases xs with
    | nil => rw [lawL_nil]; intro b hb; cases hb
    | cons x xs =>
      intro b hb
      by_cases c : 4 ≤ run (x :: xs)
      · rw [lawL_run c] at hb
        rcases List.mem_append.mp hb with hb | hb
        · rcases List.mem_append.mp hb with hb | hb
          · exact numB_lt256 _ b hb
          · exact numB_lt256 _ b hb
        · exact ih _ (by rw [List.length_drop]; omega) b hb
      · rw [lawL_piece c] at hb
        have := pe_ge 1 xs
        rcases List.mem_append.mp hb with hb | hb
        · rcases List.mem_append.mp hb with hb | hb
          · exact numB_lt256 _ b hb
          · exact packB_lt _ _ b hb
        · exact ih _ (by rw [List.length_drop]; omega) b hb
theorem levB_lt (most : Nat) (xs : List Nat) : ∀ b ∈ levB most xs, b < 256 := by
  unfold levB
  split
  · intro b hb; cases hb
  · exact lawL_lt _ _ _ (Nat.le_refl _)
/-- the levels' bytes, read again -/
theorem tkLev_levB {most : Nat} (xs rest : List Nat) (hm : most < 34359738368) (hx : ∀ x ∈ xs, x ≤ most) (hz : xs.length ≤ 999999) : tkLev most xs.length (levB most xs ++ rest) = some (xs, (levB most xs).length) := by
  unfold tkLev levB
  by_cases w0 : bitsN most = 0
  · rw [if_pos w0, if_pos w0]
    have : most = 0 := by
      unfold bitsN at w0
      split at w0
      · assumption
      · omega
    have : xs = List.replicate xs.length 0 := List.eq_replicate_iff.mpr ⟨rfl, fun b hb => by have := hx b hb; omega⟩
    rw [← this]; rfl
  · rw [if_neg w0, if_neg w0]
    exact (tkL_law (Nat.le_trans (bits_le (k := 35) hm) (by decide)) w0 _ xs rest (Nat.le_refl _) (by omega) hm fun x h => ⟨hx x h, Nat.lt_of_le_of_lt (hx x h) (bits_lt _)⟩).1
theorem tkLev_cut {most : Nat} (xs : List Nat) (hm : most < 34359738368) (hx : ∀ x ∈ xs, x ≤ most) (hz : xs.length ≤ 999999) (h0 : levB most xs ≠ []) : tkLev most xs.length (levB most xs).dropLast = none := by
  unfold tkLev levB at *
  by_cases w0 : bitsN most = 0
  · rw [if_pos w0] at h0; exact absurd rfl h0
  · rw [if_neg w0] at h0
    rw [if_neg w0, if_neg w0]
    refine (tkL_law (Nat.le_trans (bits_le (k := 35) hm) (by decide)) w0 _ xs [] (Nat.le_refl _) (by omega) hm fun x h => ⟨hx x h, Nat.lt_of_le_of_lt (hx x h) (bits_lt _)⟩).2 ?_
    intro z
    rw [z, lawL_nil] at h0
    exact h0 rfl
end Dk

set_option Elab.async false
set_option linter.all false
set_option maxRecDepth 100000
set_option maxHeartbeats 4000000
namespace Dk
open PySem PySem.Spec PyProof.Rows L2 Dd

def XQ (h : DH) (d : D) (h' : DH) : Prop := d = .bl true ∧ Grow h h'
theorem w21_0 (c i : Nat) (bs : List Nat) (k m : Int) (h : DH) (l : lstAt h i = some (nD bs)) (hb : ∀ b ∈ bs, b < 2 ^ 60) (hn : tk 5 0 bs = none) : WC (pg.run (c + 2)) 21 [.int 0, .ref i, .int k, .int m] h (XQ h) fun _ _ _ => False := by
  refine wc_of (f := f21) rfl e21 rfl ?_
  unfold b21
  rw [wp_seq]
  refine wp_try0 ?_
  simp [startD, f21, Dd.we_ret, Dd.we_bnd, Dd.we_lift, Dd.we_var, Dd.we_args_nil, Dd.we_args_cons, Dd.we_opN, Dd.we_op1, Dd.we_op2, Dd.we_call, Dd.we_tst, Dd.we_tru, Dd.we_notT, Dd.we_andT, Dd.we_orT, Dd.we_notV, Dd.we_andV, Dd.we_orV, Dd.we_ite, Dd.we_chn, Dd.we_mth, Dd.we_slice, Dd.we_intOf, Dd.nx_next, Dd.nx_ret, Dd.nx_ex, Dd.td_next, Dd.td_cont, Dd.td_brk, Dd.td_ret, Dd.td_ex, Dd.nx_brk, Dd.nx_cont, Dd.wp_skip, Dd.wp_seq, Dd.wp_drop, Dd.wp_ret, Dd.wp_asg, Dd.wp_if, Dd.wp_raise, Dd.wp_set, Dk.wp_aug, Dk.wp_brk, Dk.p_and127, Dk.p_and255, Dk.p_and1, Dk.p_shr8, Dk.p_shr16, Dk.p_shr24, Dk.p_ashr7, Dk.p_ashr8, Dk.p_aadd, Dk.p_asub, Dd.WO, Dk.eq_ss, Dk.ne_ss, Dk.eq_ii, Dk.ne_ii, Dk.isNot_non, Dk.q_add, Dk.q_addt, Dk.q_sub, Dk.q_mod, Dk.q_fdiv, Dk.q_mulr, Dk.q_mull, Dk.q_neg, Dk.q_lt, Dk.q_le, Dk.q_gt, Dk.q_ge, Dk.q_ix0, Dk.q_ix1, Dk.q_ix2, Dk.q_is_t, Dk.q_is_s, Dk.q_is_lt, Dk.q_is_ll, Dk.q_tru, Dk.q_lent, Dk.q_lenr, Dk.q_int, Dk.q_intb, Dk.q_abs, Dk.q_tupr, Dk.q_lstt, Dk.q_lst, Dk.q_tup, Dk.q_oka, Dk.q_oke, Dk.q_okj, Dk.q_app, Dk.q_ext, Dk.q_nm, Dk.q_tp, Dk.q_sa0, Dk.q_sa1, Dk.q_isn, Dk.q_isb, Dk.q_wipe0, Dk.q_wipe1]
  refine (w1i c i bs 0 h _ rfl l hb).mono ?_ ?_
  · rintro d h2 ⟨rfl, a, b, q, -⟩
    rw [List.drop_zero, hn] at q; cases q
  · rintro c p h2 ⟨rfl, rfl, -⟩
    simp [Dd.we_ret, Dd.we_bnd, Dd.we_lift, Dd.we_var, Dd.we_args_nil, Dd.we_args_cons, Dd.we_opN, Dd.we_op1, Dd.we_op2, Dd.we_call, Dd.we_tst, Dd.we_tru, Dd.we_notT, Dd.we_andT, Dd.we_orT, Dd.we_notV, Dd.we_andV, Dd.we_orV, Dd.we_ite, Dd.we_chn, Dd.we_mth, Dd.we_slice, Dd.we_intOf, Dd.nx_next, Dd.nx_ret, Dd.nx_ex, Dd.td_next, Dd.td_cont, Dd.td_brk, Dd.td_ret, Dd.td_ex, Dd.nx_brk, Dd.nx_cont, Dd.wp_skip, Dd.wp_seq, Dd.wp_drop, Dd.wp_ret, Dd.wp_asg, Dd.wp_if, Dd.wp_raise, Dd.wp_set, Dk.wp_aug, Dk.wp_brk, Dk.p_and127, Dk.p_and255, Dk.p_and1, Dk.p_shr8, Dk.p_shr16, Dk.p_shr24, Dk.p_ashr7, Dk.p_ashr8, Dk.p_aadd, Dk.p_asub, Dd.WO, Dk.eq_ss, Dk.ne_ss, Dk.eq_ii, Dk.ne_ii, Dk.isNot_non, Dk.q_add, Dk.q_addt, Dk.q_sub, Dk.q_mod, Dk.q_fdiv, Dk.q_mulr, Dk.q_mull, Dk.q_neg, Dk.q_lt, Dk.q_le, Dk.q_gt, Dk.q_ge, Dk.q_ix0, Dk.q_ix1, Dk.q_ix2, Dk.q_is_t, Dk.q_is_s, Dk.q_is_lt, Dk.q_is_ll, Dk.q_tru, Dk.q_lent, Dk.q_lenr, Dk.q_int, Dk.q_intb, Dk.q_abs, Dk.q_tupr, Dk.q_lstt, Dk.q_lst, Dk.q_tup, Dk.q_oka, Dk.q_oke, Dk.q_okj, Dk.q_app, Dk.q_ext, Dk.q_nm, Dk.q_tp, Dk.q_sa0, Dk.q_sa1, Dk.q_isn, Dk.q_isb, Dk.q_wipe0, Dk.q_wipe1, end_ret, XQ]
    exact Grow.refl _
theorem w21_1 (c i : Nat) (bs : List Nat) (k m : Nat) (h : DH) (l : lstAt h i = some (nD bs)) (hb : ∀ b ∈ bs, b < 256) (hm : m < 34359738368) (hk : k ≤ 999999) (hn : tkLev m k bs = none) : WC (pg.run (c + 3)) 21 [.int 1, .ref i, .int (k : Int), .int (m : Int)] h (XQ h) fun _ _ _ => False := by
  refine wc_of (f := f21) rfl e21 rfl ?_
  unfold b21
  rw [wp_seq]
  refine wp_try0 ?_
  simp [startD, f21, Dd.we_ret, Dd.we_bnd, Dd.we_lift, Dd.we_var, Dd.we_args_nil, Dd.we_args_cons, Dd.we_opN, Dd.we_op1, Dd.we_op2, Dd.we_call, Dd.we_tst, Dd.we_tru, Dd.we_notT, Dd.we_andT, Dd.we_orT, Dd.we_notV, Dd.we_andV, Dd.we_orV, Dd.we_ite, Dd.we_chn, Dd.we_mth, Dd.we_slice, Dd.we_intOf, Dd.nx_next, Dd.nx_ret, Dd.nx_ex, Dd.td_next, Dd.td_cont, Dd.td_brk, Dd.td_ret, Dd.td_ex, Dd.nx_brk, Dd.nx_cont, Dd.wp_skip, Dd.wp_seq, Dd.wp_drop, Dd.wp_ret, Dd.wp_asg, Dd.wp_if, Dd.wp_raise, Dd.wp_set, Dk.wp_aug, Dk.wp_brk, Dk.p_and127, Dk.p_and255, Dk.p_and1, Dk.p_shr8, Dk.p_shr16, Dk.p_shr24, Dk.p_ashr7, Dk.p_ashr8, Dk.p_aadd, Dk.p_asub, Dd.WO, Dk.eq_ss, Dk.ne_ss, Dk.eq_ii, Dk.ne_ii, Dk.isNot_non, Dk.q_add, Dk.q_addt, Dk.q_sub, Dk.q_mod, Dk.q_fdiv, Dk.q_mulr, Dk.q_mull, Dk.q_neg, Dk.q_lt, Dk.q_le, Dk.q_gt, Dk.q_ge, Dk.q_ix0, Dk.q_ix1, Dk.q_ix2, Dk.q_is_t, Dk.q_is_s, Dk.q_is_lt, Dk.q_is_ll, Dk.q_tru, Dk.q_lent, Dk.q_lenr, Dk.q_int, Dk.q_intb, Dk.q_abs, Dk.q_tupr, Dk.q_lstt, Dk.q_lst, Dk.q_tup, Dk.q_oka, Dk.q_oke, Dk.q_okj, Dk.q_app, Dk.q_ext, Dk.q_nm, Dk.q_tp, Dk.q_sa0, Dk.q_sa1, Dk.q_isn, Dk.q_isb, Dk.q_wipe0, Dk.q_wipe1]
  refine (w12 c i 0 k m bs h l hb hm hk).mono ?_ ?_
  · rintro d h2 ⟨f, vs, b, rfl, -, -, -, q⟩
    rw [List.drop_zero, hn] at q; cases q
  · rintro c p h2 ⟨rfl, g, -⟩
    simp [Dd.we_ret, Dd.we_bnd, Dd.we_lift, Dd.we_var, Dd.we_args_nil, Dd.we_args_cons, Dd.we_opN, Dd.we_op1, Dd.we_op2, Dd.we_call, Dd.we_tst, Dd.we_tru, Dd.we_notT, Dd.we_andT, Dd.we_orT, Dd.we_notV, Dd.we_andV, Dd.we_orV, Dd.we_ite, Dd.we_chn, Dd.we_mth, Dd.we_slice, Dd.we_intOf, Dd.nx_next, Dd.nx_ret, Dd.nx_ex, Dd.td_next, Dd.td_cont, Dd.td_brk, Dd.td_ret, Dd.td_ex, Dd.nx_brk, Dd.nx_cont, Dd.wp_skip, Dd.wp_seq, Dd.wp_drop, Dd.wp_ret, Dd.wp_asg, Dd.wp_if, Dd.wp_raise, Dd.wp_set, Dk.wp_aug, Dk.wp_brk, Dk.p_and127, Dk.p_and255, Dk.p_and1, Dk.p_shr8, Dk.p_shr16, Dk.p_shr24, Dk.p_ashr7, Dk.p_ashr8, Dk.p_aadd, Dk.p_asub, Dd.WO, Dk.eq_ss, Dk.ne_ss, Dk.eq_ii, Dk.ne_ii, Dk.isNot_non, Dk.q_add, Dk.q_addt, Dk.q_sub, Dk.q_mod, Dk.q_fdiv, Dk.q_mulr, Dk.q_mull, Dk.q_neg, Dk.q_lt, Dk.q_le, Dk.q_gt, Dk.q_ge, Dk.q_ix0, Dk.q_ix1, Dk.q_ix2, Dk.q_is_t, Dk.q_is_s, Dk.q_is_lt, Dk.q_is_ll, Dk.q_tru, Dk.q_lent, Dk.q_lenr, Dk.q_int, Dk.q_intb, Dk.q_abs, Dk.q_tupr, Dk.q_lstt, Dk.q_lst, Dk.q_tup, Dk.q_oka, Dk.q_oke, Dk.q_okj, Dk.q_app, Dk.q_ext, Dk.q_nm, Dk.q_tp, Dk.q_sa0, Dk.q_sa1, Dk.q_isn, Dk.q_isb, Dk.q_wipe0, Dk.q_wipe1, end_ret, XQ]
    exact g
theorem w21_2 (c i : Nat) (bs : List Nat) (k m : Nat) (h : DH) (l : lstAt h i = some (nD bs)) (hb : ∀ b ∈ bs, b < 256) (hm : m ≤ 64) (hk : k ≤ 1000000) (m0 : m ≠ 0) (k0 : 0 < k) (hn : unp m k bs = none) : WC (pg.run (c + 2)) 21 [.int 2, .ref i, .int (k : Int), .int (m : Int)] h (XQ h) fun _ _ _ => False := by
  refine wc_of (f := f21) rfl e21 rfl ?_
  unfold b21
  rw [wp_seq]
  refine wp_try0 ?_
  simp [startD, f21, Dd.we_ret, Dd.we_bnd, Dd.we_lift, Dd.we_var, Dd.we_args_nil, Dd.we_args_cons, Dd.we_opN, Dd.we_op1, Dd.we_op2, Dd.we_call, Dd.we_tst, Dd.we_tru, Dd.we_notT, Dd.we_andT, Dd.we_orT, Dd.we_notV, Dd.we_andV, Dd.we_orV, Dd.we_ite, Dd.we_chn, Dd.we_mth, Dd.we_slice, Dd.we_intOf, Dd.nx_next, Dd.nx_ret, Dd.nx_ex, Dd.td_next, Dd.td_cont, Dd.td_brk, Dd.td_ret, Dd.td_ex, Dd.nx_brk, Dd.nx_cont, Dd.wp_skip, Dd.wp_seq, Dd.wp_drop, Dd.wp_ret, Dd.wp_asg, Dd.wp_if, Dd.wp_raise, Dd.wp_set, Dk.wp_aug, Dk.wp_brk, Dk.p_and127, Dk.p_and255, Dk.p_and1, Dk.p_shr8, Dk.p_shr16, Dk.p_shr24, Dk.p_ashr7, Dk.p_ashr8, Dk.p_aadd, Dk.p_asub, Dd.WO, Dk.eq_ss, Dk.ne_ss, Dk.eq_ii, Dk.ne_ii, Dk.isNot_non, Dk.q_add, Dk.q_addt, Dk.q_sub, Dk.q_mod, Dk.q_fdiv, Dk.q_mulr, Dk.q_mull, Dk.q_neg, Dk.q_lt, Dk.q_le, Dk.q_gt, Dk.q_ge, Dk.q_ix0, Dk.q_ix1, Dk.q_ix2, Dk.q_is_t, Dk.q_is_s, Dk.q_is_lt, Dk.q_is_ll, Dk.q_tru, Dk.q_lent, Dk.q_lenr, Dk.q_int, Dk.q_intb, Dk.q_abs, Dk.q_tupr, Dk.q_lstt, Dk.q_lst, Dk.q_tup, Dk.q_oka, Dk.q_oke, Dk.q_okj, Dk.q_app, Dk.q_ext, Dk.q_nm, Dk.q_tp, Dk.q_sa0, Dk.q_sa1, Dk.q_isn, Dk.q_isb, Dk.q_wipe0, Dk.q_wipe1]
  refine (w8i c i bs 0 k m h _ rfl l hb hm hk m0 k0).mono ?_ ?_
  · rintro d h2 ⟨f, vs, b, rfl, -, -, -, -, q⟩
    rw [List.drop_zero, hn] at q; cases q
  · rintro c p h2 ⟨rfl, g, -⟩
    simp [Dd.we_ret, Dd.we_bnd, Dd.we_lift, Dd.we_var, Dd.we_args_nil, Dd.we_args_cons, Dd.we_opN, Dd.we_op1, Dd.we_op2, Dd.we_call, Dd.we_tst, Dd.we_tru, Dd.we_notT, Dd.we_andT, Dd.we_orT, Dd.we_notV, Dd.we_andV, Dd.we_orV, Dd.we_ite, Dd.we_chn, Dd.we_mth, Dd.we_slice, Dd.we_intOf, Dd.nx_next, Dd.nx_ret, Dd.nx_ex, Dd.td_next, Dd.td_cont, Dd.td_brk, Dd.td_ret, Dd.td_ex, Dd.nx_brk, Dd.nx_cont, Dd.wp_skip, Dd.wp_seq, Dd.wp_drop, Dd.wp_ret, Dd.wp_asg, Dd.wp_if, Dd.wp_raise, Dd.wp_set, Dk.wp_aug, Dk.wp_brk, Dk.p_and127, Dk.p_and255, Dk.p_and1, Dk.p_shr8, Dk.p_shr16, Dk.p_shr24, Dk.p_ashr7, Dk.p_ashr8, Dk.p_aadd, Dk.p_asub, Dd.WO, Dk.eq_ss, Dk.ne_ss, Dk.eq_ii, Dk.ne_ii, Dk.isNot_non, Dk.q_add, Dk.q_addt, Dk.q_sub, Dk.q_mod, Dk.q_fdiv, Dk.q_mulr, Dk.q_mull, Dk.q_neg, Dk.q_lt, Dk.q_le, Dk.q_gt, Dk.q_ge, Dk.q_ix0, Dk.q_ix1, Dk.q_ix2, Dk.q_is_t, Dk.q_is_s, Dk.q_is_lt, Dk.q_is_ll, Dk.q_tru, Dk.q_lent, Dk.q_lenr, Dk.q_int, Dk.q_intb, Dk.q_abs, Dk.q_tupr, Dk.q_lstt, Dk.q_lst, Dk.q_tup, Dk.q_oka, Dk.q_oke, Dk.q_okj, Dk.q_app, Dk.q_ext, Dk.q_nm, Dk.q_tp, Dk.q_sa0, Dk.q_sa1, Dk.q_isn, Dk.q_isb, Dk.q_wipe0, Dk.q_wipe1, end_ret, XQ]
    exact g
theorem w21_3 (c i : Nat) (bs : List Nat) (k m : Int) (h : DH) (l : lstAt h i = some (nD bs)) (hb : ∀ b ∈ bs, b < 256) (hn : bs.length < 4) : WC (pg.run (c + 2)) 21 [.int 3, .ref i, .int k, .int m] h (XQ h) fun _ _ _ => False := by
  refine wc_of (f := f21) rfl e21 rfl ?_
  unfold b21
  rw [wp_seq]
  refine wp_try0 ?_
  simp [startD, f21, Dd.we_ret, Dd.we_bnd, Dd.we_lift, Dd.we_var, Dd.we_args_nil, Dd.we_args_cons, Dd.we_opN, Dd.we_op1, Dd.we_op2, Dd.we_call, Dd.we_tst, Dd.we_tru, Dd.we_notT, Dd.we_andT, Dd.we_orT, Dd.we_notV, Dd.we_andV, Dd.we_orV, Dd.we_ite, Dd.we_chn, Dd.we_mth, Dd.we_slice, Dd.we_intOf, Dd.nx_next, Dd.nx_ret, Dd.nx_ex, Dd.td_next, Dd.td_cont, Dd.td_brk, Dd.td_ret, Dd.td_ex, Dd.nx_brk, Dd.nx_cont, Dd.wp_skip, Dd.wp_seq, Dd.wp_drop, Dd.wp_ret, Dd.wp_asg, Dd.wp_if, Dd.wp_raise, Dd.wp_set, Dk.wp_aug, Dk.wp_brk, Dk.p_and127, Dk.p_and255, Dk.p_and1, Dk.p_shr8, Dk.p_shr16, Dk.p_shr24, Dk.p_ashr7, Dk.p_ashr8, Dk.p_aadd, Dk.p_asub, Dd.WO, Dk.eq_ss, Dk.ne_ss, Dk.eq_ii, Dk.ne_ii, Dk.isNot_non, Dk.q_add, Dk.q_addt, Dk.q_sub, Dk.q_mod, Dk.q_fdiv, Dk.q_mulr, Dk.q_mull, Dk.q_neg, Dk.q_lt, Dk.q_le, Dk.q_gt, Dk.q_ge, Dk.q_ix0, Dk.q_ix1, Dk.q_ix2, Dk.q_is_t, Dk.q_is_s, Dk.q_is_lt, Dk.q_is_ll, Dk.q_tru, Dk.q_lent, Dk.q_lenr, Dk.q_int, Dk.q_intb, Dk.q_abs, Dk.q_tupr, Dk.q_lstt, Dk.q_lst, Dk.q_tup, Dk.q_oka, Dk.q_oke, Dk.q_okj, Dk.q_app, Dk.q_ext, Dk.q_nm, Dk.q_tp, Dk.q_sa0, Dk.q_sa1, Dk.q_isn, Dk.q_isb, Dk.q_wipe0, Dk.q_wipe1]
  refine (w3 c i bs 0 h l hb).mono ?_ ?_
  · rintro d h2 ⟨rfl, q, -⟩
    omega
  · rintro c p h2 ⟨rfl, rfl, -⟩
    simp [Dd.we_ret, Dd.we_bnd, Dd.we_lift, Dd.we_var, Dd.we_args_nil, Dd.we_args_cons, Dd.we_opN, Dd.we_op1, Dd.we_op2, Dd.we_call, Dd.we_tst, Dd.we_tru, Dd.we_notT, Dd.we_andT, Dd.we_orT, Dd.we_notV, Dd.we_andV, Dd.we_orV, Dd.we_ite, Dd.we_chn, Dd.we_mth, Dd.we_slice, Dd.we_intOf, Dd.nx_next, Dd.nx_ret, Dd.nx_ex, Dd.td_next, Dd.td_cont, Dd.td_brk, Dd.td_ret, Dd.td_ex, Dd.nx_brk, Dd.nx_cont, Dd.wp_skip, Dd.wp_seq, Dd.wp_drop, Dd.wp_ret, Dd.wp_asg, Dd.wp_if, Dd.wp_raise, Dd.wp_set, Dk.wp_aug, Dk.wp_brk, Dk.p_and127, Dk.p_and255, Dk.p_and1, Dk.p_shr8, Dk.p_shr16, Dk.p_shr24, Dk.p_ashr7, Dk.p_ashr8, Dk.p_aadd, Dk.p_asub, Dd.WO, Dk.eq_ss, Dk.ne_ss, Dk.eq_ii, Dk.ne_ii, Dk.isNot_non, Dk.q_add, Dk.q_addt, Dk.q_sub, Dk.q_mod, Dk.q_fdiv, Dk.q_mulr, Dk.q_mull, Dk.q_neg, Dk.q_lt, Dk.q_le, Dk.q_gt, Dk.q_ge, Dk.q_ix0, Dk.q_ix1, Dk.q_ix2, Dk.q_is_t, Dk.q_is_s, Dk.q_is_lt, Dk.q_is_ll, Dk.q_tru, Dk.q_lent, Dk.q_lenr, Dk.q_int, Dk.q_intb, Dk.q_abs, Dk.q_tupr, Dk.q_lstt, Dk.q_lst, Dk.q_tup, Dk.q_oka, Dk.q_oke, Dk.q_okj, Dk.q_app, Dk.q_ext, Dk.q_nm, Dk.q_tp, Dk.q_sa0, Dk.q_sa1, Dk.q_isn, Dk.q_isb, Dk.q_wipe0, Dk.q_wipe1, end_ret, XQ]
    exact Grow.refl _
/-- a row of levels -/
def I22 (h : DH) (cell : Int) (most : Nat) (ns : List Nat) (k : Nat) (e : DE) (hh : DH) : Prop := ∃ (row : List Nat) (f : Nat) (x y : Option D), e = [some (.int cell), some (.int (most : Int)), some (.ref h.length), some (.ref f), x, y] ∧ Grow h hh ∧ lstAt hh h.length = some (nD ns) ∧ h.length ≤ f ∧ lstAt hh f = some (nD row) ∧ (∀ x ∈ row, x ≤ most) ∧ row.length ≤ 9 * k
theorem mult_of (a : Nat) : ∃ m : Nat, m ≤ 9 ∧ ∀ (h : DH) (i : Nat), lstAt h i = some [.int 1, .int 1, .int 2, .int 3, .int 4, .int 5, .int 9, .int 1] → ixD (.ref i) (.int ((a : Int) % 8)) h = some (.int (m : Int), h) := by
  have hx : (nD [1, 1, 2, 3, 4, 5, 9, 1]) = [.int 1, .int 1, .int 2, .int 3, .int 4, .int 5, .int 9, .int 1] := rfl
  have hk : a % 8 < [1, 1, 2, 3, 4, 5, 9, 1].length := Nat.mod_lt _ (by decide)
  refine ⟨[1, 1, 2, 3, 4, 5, 9, 1][a % 8], ?_, fun h i l => ?_⟩
  · have : ∀ j (hj : j < [1, 1, 2, 3, 4, 5, 9, 1].length), [1, 1, 2, 3, 4, 5, 9, 1][j] ≤ 9 := by decide
    exact this _ hk
  · rw [q_ixr, lstAt_some l]
    dsimp only
    rw [← hx, nD_at (k := a % 8) (by omega) hk]; rfl
theorem w22 (c : Nat) (cell : Int) (most : Nat) (h : DH) (hm : most ≤ 1000000) : WC (pg.run (c + 2)) 22 [.int cell, .int (most : Int)] h (fun d h' => ∃ f row, d = .ref f ∧ h.length ≤ f ∧ Grow h h' ∧ lstAt h' f = some (nD row) ∧ (∀ x ∈ row, x ≤ most) ∧ row.length ≤ 216) fun _ _ _ => False := by
  refine wc_of (f := f22) rfl e22 rfl ?_
  have zz : Z = 16777216 := rfl
  unfold b22
  simp [startD, f22, Dd.we_ret, Dd.we_bnd, Dd.we_lift, Dd.we_var, Dd.we_args_nil, Dd.we_args_cons, Dd.we_opN, Dd.we_op1, Dd.we_op2, Dd.we_call, Dd.we_tst, Dd.we_tru, Dd.we_notT, Dd.we_andT, Dd.we_orT, Dd.we_notV, Dd.we_andV, Dd.we_orV, Dd.we_ite, Dd.we_chn, Dd.we_mth, Dd.we_slice, Dd.we_intOf, Dd.nx_next, Dd.nx_ret, Dd.nx_ex, Dd.td_next, Dd.td_cont, Dd.td_brk, Dd.td_ret, Dd.td_ex, Dd.nx_brk, Dd.nx_cont, Dd.wp_skip, Dd.wp_seq, Dd.wp_drop, Dd.wp_ret, Dd.wp_asg, Dd.wp_if, Dd.wp_raise, Dd.wp_set, Dk.wp_aug, Dk.wp_brk, Dk.p_and127, Dk.p_and255, Dk.p_and1, Dk.p_shr8, Dk.p_shr16, Dk.p_shr24, Dk.p_ashr7, Dk.p_ashr8, Dk.p_aadd, Dk.p_asub, Dd.WO, Dk.eq_ss, Dk.ne_ss, Dk.eq_ii, Dk.ne_ii, Dk.isNot_non, Dk.q_add, Dk.q_addt, Dk.q_sub, Dk.q_mod, Dk.q_fdiv, Dk.q_mulr, Dk.q_mull, Dk.q_neg, Dk.q_lt, Dk.q_le, Dk.q_gt, Dk.q_ge, Dk.q_ix0, Dk.q_ix1, Dk.q_ix2, Dk.q_is_t, Dk.q_is_s, Dk.q_is_lt, Dk.q_is_ll, Dk.q_tru, Dk.q_lent, Dk.q_lenr, Dk.q_int, Dk.q_intb, Dk.q_abs, Dk.q_tupr, Dk.q_lstt, Dk.q_lst, Dk.q_tup, Dk.q_oka, Dk.q_oke, Dk.q_okj, Dk.q_app, Dk.q_ext, Dk.q_nm, Dk.q_tp, Dk.q_sa0, Dk.q_sa1, Dk.q_isn, Dk.q_isb, Dk.q_wipe0, Dk.q_wipe1]
  refine (w14 c cell 30 (by decide) h).mono ?_ fun _ _ _ z => z.elim
  rintro d h2 ⟨rfl, g, ns, l1, nl, nx⟩
  have at_ : ∀ {k : Nat} {v : Int}, v = (k : Int) → k < 30 → ∃ x : Nat, x < 1048576 ∧ L2.atI (nD ns) v = some (.int (x : Int)) := fun {k v} hv hk => ⟨ns[k]'(by omega), nx _ (List.getElem_mem _), nD_at hv (by omega)⟩
  obtain ⟨n0, -, q0⟩ := at_ (k := 0) (v := 0) rfl (by decide)
  have l2 := (Grow.one h2 (Ob.lst [])).lst l1
  have lh : h.length < h2.length := (List.getElem?_eq_some_iff.mp (lstAt_some l1)).1
  refine for_rngS (n0 % 24) (I22 h cell most ns) ?_ (by omega) ⟨[], h2.length, _, _, rfl, g.trans (Grow.one _ _), l2, by omega, lst_new, fun _ z => (List.not_mem_nil z).elim, Nat.le_refl _⟩ ?_ ?_
  · simp [Dd.we_ret, Dd.we_bnd, Dd.we_lift, Dd.we_var, Dd.we_args_nil, Dd.we_args_cons, Dd.we_opN, Dd.we_op1, Dd.we_op2, Dd.we_call, Dd.we_tst, Dd.we_tru, Dd.we_notT, Dd.we_andT, Dd.we_orT, Dd.we_notV, Dd.we_andV, Dd.we_orV, Dd.we_ite, Dd.we_chn, Dd.we_mth, Dd.we_slice, Dd.we_intOf, Dd.nx_next, Dd.nx_ret, Dd.nx_ex, Dd.td_next, Dd.td_cont, Dd.td_brk, Dd.td_ret, Dd.td_ex, Dd.nx_brk, Dd.nx_cont, Dd.wp_skip, Dd.wp_seq, Dd.wp_drop, Dd.wp_ret, Dd.wp_asg, Dd.wp_if, Dd.wp_raise, Dd.wp_set, Dk.wp_aug, Dk.wp_brk, Dk.p_and127, Dk.p_and255, Dk.p_and1, Dk.p_shr8, Dk.p_shr16, Dk.p_shr24, Dk.p_ashr7, Dk.p_ashr8, Dk.p_aadd, Dk.p_asub, Dd.WO, Dk.eq_ss, Dk.ne_ss, Dk.eq_ii, Dk.ne_ii, Dk.isNot_non, Dk.q_add, Dk.q_addt, Dk.q_sub, Dk.q_mod, Dk.q_fdiv, Dk.q_mulr, Dk.q_mull, Dk.q_neg, Dk.q_lt, Dk.q_le, Dk.q_gt, Dk.q_ge, Dk.q_ix0, Dk.q_ix1, Dk.q_ix2, Dk.q_is_t, Dk.q_is_s, Dk.q_is_lt, Dk.q_is_ll, Dk.q_tru, Dk.q_lent, Dk.q_lenr, Dk.q_int, Dk.q_intb, Dk.q_abs, Dk.q_tupr, Dk.q_lstt, Dk.q_lst, Dk.q_tup, Dk.q_oka, Dk.q_oke, Dk.q_okj, Dk.q_app, Dk.q_ext, Dk.q_nm, Dk.q_tp, Dk.q_sa0, Dk.q_sa1, Dk.q_isn, Dk.q_isb, Dk.q_wipe0, Dk.q_wipe1, lstAt_some l2, q_ixr, q0, Dd.pureO]
  · rintro e hh ⟨row, f, x, y, rfl, g, l1, hf, l3, r1, r2⟩
    simp [Dd.we_ret, Dd.we_bnd, Dd.we_lift, Dd.we_var, Dd.we_args_nil, Dd.we_args_cons, Dd.we_opN, Dd.we_op1, Dd.we_op2, Dd.we_call, Dd.we_tst, Dd.we_tru, Dd.we_notT, Dd.we_andT, Dd.we_orT, Dd.we_notV, Dd.we_andV, Dd.we_orV, Dd.we_ite, Dd.we_chn, Dd.we_mth, Dd.we_slice, Dd.we_intOf, Dd.nx_next, Dd.nx_ret, Dd.nx_ex, Dd.td_next, Dd.td_cont, Dd.td_brk, Dd.td_ret, Dd.td_ex, Dd.nx_brk, Dd.nx_cont, Dd.wp_skip, Dd.wp_seq, Dd.wp_drop, Dd.wp_ret, Dd.wp_asg, Dd.wp_if, Dd.wp_raise, Dd.wp_set, Dk.wp_aug, Dk.wp_brk, Dk.p_and127, Dk.p_and255, Dk.p_and1, Dk.p_shr8, Dk.p_shr16, Dk.p_shr24, Dk.p_ashr7, Dk.p_ashr8, Dk.p_aadd, Dk.p_asub, Dd.WO, Dk.eq_ss, Dk.ne_ss, Dk.eq_ii, Dk.ne_ii, Dk.isNot_non, Dk.q_add, Dk.q_addt, Dk.q_sub, Dk.q_mod, Dk.q_fdiv, Dk.q_mulr, Dk.q_mull, Dk.q_neg, Dk.q_lt, Dk.q_le, Dk.q_gt, Dk.q_ge, Dk.q_ix0, Dk.q_ix1, Dk.q_ix2, Dk.q_is_t, Dk.q_is_s, Dk.q_is_lt, Dk.q_is_ll, Dk.q_tru, Dk.q_lent, Dk.q_lenr, Dk.q_int, Dk.q_intb, Dk.q_abs, Dk.q_tupr, Dk.q_lstt, Dk.q_lst, Dk.q_tup, Dk.q_oka, Dk.q_oke, Dk.q_okj, Dk.q_app, Dk.q_ext, Dk.q_nm, Dk.q_tp, Dk.q_sa0, Dk.q_sa1, Dk.q_isn, Dk.q_isb, Dk.q_wipe0, Dk.q_wipe1, end_ret]
    exact ⟨hf, g, row, l3, r1, by omega⟩
  · rintro k e hh hk ⟨row, f, x, y, rfl, g, l1, hf, l3, r1, r2⟩
    refine ⟨_, rfl, ?_⟩
    obtain ⟨a, -, qa⟩ := at_ (k := 1 + k) (v := 1 + (k : Int)) (by omega) (by omega)
    have p1 : (0 : Int) < (most : Int) + 1 := by omega
    have md : ∀ h, modD (.int ((a : Int) / 16)) (.int ((most : Int) + 1)) h = some (.int ((a / 16 % (most + 1) : Nat) : Int), h) := fun h => by
      rw [q_mod _ _ _ p1]; norm_cast
    obtain ⟨v, hv⟩ : ∃ v, v = a / 16 % (most + 1) := ⟨_, rfl⟩
    rw [← hv] at md
    have hv2 : v ≤ most := by have := Nat.mod_lt (a / 16) (by omega : 0 < most + 1); omega
    obtain ⟨m, hm9, hq⟩ := mult_of a
    have bl : below (m : Int) 9223372036854775808 = true := below_iff.mpr (by omega)
    simp [Dd.we_ret, Dd.we_bnd, Dd.we_lift, Dd.we_var, Dd.we_args_nil, Dd.we_args_cons, Dd.we_opN, Dd.we_op1, Dd.we_op2, Dd.we_call, Dd.we_tst, Dd.we_tru, Dd.we_notT, Dd.we_andT, Dd.we_orT, Dd.we_notV, Dd.we_andV, Dd.we_orV, Dd.we_ite, Dd.we_chn, Dd.we_mth, Dd.we_slice, Dd.we_intOf, Dd.nx_next, Dd.nx_ret, Dd.nx_ex, Dd.td_next, Dd.td_cont, Dd.td_brk, Dd.td_ret, Dd.td_ex, Dd.nx_brk, Dd.nx_cont, Dd.wp_skip, Dd.wp_seq, Dd.wp_drop, Dd.wp_ret, Dd.wp_asg, Dd.wp_if, Dd.wp_raise, Dd.wp_set, Dk.wp_aug, Dk.wp_brk, Dk.p_and127, Dk.p_and255, Dk.p_and1, Dk.p_shr8, Dk.p_shr16, Dk.p_shr24, Dk.p_ashr7, Dk.p_ashr8, Dk.p_aadd, Dk.p_asub, Dd.WO, Dk.eq_ss, Dk.ne_ss, Dk.eq_ii, Dk.ne_ii, Dk.isNot_non, Dk.q_add, Dk.q_addt, Dk.q_sub, Dk.q_mod, Dk.q_fdiv, Dk.q_mulr, Dk.q_mull, Dk.q_neg, Dk.q_lt, Dk.q_le, Dk.q_gt, Dk.q_ge, Dk.q_ix0, Dk.q_ix1, Dk.q_ix2, Dk.q_is_t, Dk.q_is_s, Dk.q_is_lt, Dk.q_is_ll, Dk.q_tru, Dk.q_lent, Dk.q_lenr, Dk.q_int, Dk.q_intb, Dk.q_abs, Dk.q_tupr, Dk.q_lstt, Dk.q_lst, Dk.q_tup, Dk.q_oka, Dk.q_oke, Dk.q_okj, Dk.q_app, Dk.q_ext, Dk.q_nm, Dk.q_tp, Dk.q_sa0, Dk.q_sa1, Dk.q_isn, Dk.q_isb, Dk.q_wipe0, Dk.q_wipe1, lstAt_some l1, q_ixr, qa, Dd.pureO, md, newOb]
    obtain ⟨hA, ha⟩ : ∃ hA, hA = hh ++ [Ob.lst [D.int (v : Int)], Ob.lst [.int 1, .int 1, .int 2, .int 3, .int 4, .int 5, .int 9, .int 1]] := ⟨_, rfl⟩
    have la : lstAt hA h.length = some (nD ns) := by rw [ha]; exact Grow.lst ⟨_, rfl⟩ l1
    have lf : lstAt hA f = some (nD row) := by rw [ha]; exact Grow.lst ⟨_, rfl⟩ l3
    have lb : lstAt hA hh.length = some [D.int (v : Int)] := by rw [ha]; exact lst_app (k := 0) rfl rfl
    have lc : lstAt hA (hh.length + 1) = some [.int 1, .int 1, .int 2, .int 3, .int 4, .int 5, .int 9, .int 1] := by rw [ha]; exact lst_app (k := 1) rfl rfl
    have ga : Grow hh hA := by rw [ha]; exact ⟨_, rfl⟩
    have hq := hq hA _ lc
    rw [← ha, lstAt_some la]
    have mz : m ≤ Z := by omega
    have nr : nD (List.replicate m v) = List.replicate m (D.int (v : Int)) := List.map_replicate
    have lg : lstAt (hA ++ [Ob.lst (List.replicate m (D.int (v : Int)))]) hA.length = some (nD (List.replicate m v)) := by rw [nr]; exact lst_new
    have le : lstAt (hA ++ [Ob.lst (List.replicate m (D.int (v : Int)))]) f = some (nD row) := (Grow.one _ _).lst lf
    have z1 : row.length + m ≤ Z := by omega
    simp [Dd.we_ret, Dd.we_bnd, Dd.we_lift, Dd.we_var, Dd.we_args_nil, Dd.we_args_cons, Dd.we_opN, Dd.we_op1, Dd.we_op2, Dd.we_call, Dd.we_tst, Dd.we_tru, Dd.we_notT, Dd.we_andT, Dd.we_orT, Dd.we_notV, Dd.we_andV, Dd.we_orV, Dd.we_ite, Dd.we_chn, Dd.we_mth, Dd.we_slice, Dd.we_intOf, Dd.nx_next, Dd.nx_ret, Dd.nx_ex, Dd.td_next, Dd.td_cont, Dd.td_brk, Dd.td_ret, Dd.td_ex, Dd.nx_brk, Dd.nx_cont, Dd.wp_skip, Dd.wp_seq, Dd.wp_drop, Dd.wp_ret, Dd.wp_asg, Dd.wp_if, Dd.wp_raise, Dd.wp_set, Dk.wp_aug, Dk.wp_brk, Dk.p_and127, Dk.p_and255, Dk.p_and1, Dk.p_shr8, Dk.p_shr16, Dk.p_shr24, Dk.p_ashr7, Dk.p_ashr8, Dk.p_aadd, Dk.p_asub, Dd.WO, Dk.eq_ss, Dk.ne_ss, Dk.eq_ii, Dk.ne_ii, Dk.isNot_non, Dk.q_add, Dk.q_addt, Dk.q_sub, Dk.q_mod, Dk.q_fdiv, Dk.q_mulr, Dk.q_mull, Dk.q_neg, Dk.q_lt, Dk.q_le, Dk.q_gt, Dk.q_ge, Dk.q_ix0, Dk.q_ix1, Dk.q_ix2, Dk.q_is_t, Dk.q_is_s, Dk.q_is_lt, Dk.q_is_ll, Dk.q_tru, Dk.q_lent, Dk.q_lenr, Dk.q_int, Dk.q_intb, Dk.q_abs, Dk.q_tupr, Dk.q_lstt, Dk.q_lst, Dk.q_tup, Dk.q_oka, Dk.q_oke, Dk.q_okj, Dk.q_app, Dk.q_ext, Dk.q_nm, Dk.q_tp, Dk.q_sa0, Dk.q_sa1, Dk.q_isn, Dk.q_isb, Dk.q_wipe0, Dk.q_wipe1, qa, hq, q_mulr', lb, bl, mz, newOb, q_addr, lg, le, nD_len, z1]
    refine ⟨row ++ List.replicate m v, _, _, _, rfl, g.trans (ga.trans ⟨_, rfl⟩), Grow.lst ⟨_, rfl⟩ la, ?_, ?_, ?_, by rw [List.length_append, List.length_replicate]; omega⟩
    · have := (g.trans ga).le; omega
    · rw [nD_app]; exact lst_app (k := 1) rfl rfl
    · intro y hy
      rcases List.mem_append.mp hy with hy | hy
      · exact r1 y hy
      · rw [(List.mem_replicate.mp hy).2]; exact hv2
end Dk

set_option Elab.async false
set_option linter.all false
set_option maxRecDepth 100000
set_option maxHeartbeats 4000000
namespace Dk
open PySem PySem.Spec PyProof.Rows L2 Dd

theorem pure_nD (xs : List Nat) : ∀ x ∈ nD xs, Pure 1 x := by
  intro x hx
  unfold nD at hx
  obtain ⟨y, -, rfl⟩ := List.mem_map.mp hx
  trivial
theorem ne_nD {i j : Nat} {h : DH} {xs : List Nat} (li : lstAt h i = some (nD xs)) (lj : lstAt h j = some (nD xs)) : neD (.ref i) (.ref j) h = some (.bl false, h) := ne_lists li lj (pure_nD xs) (by decide)
theorem eqB_tl {i j : Nat} {h : DH} {xs : List Nat} {a b : Int} (hab : a = b) (li : lstAt h i = some (nD xs)) (lj : lstAt h j = some (nD xs)) : eqB (.tup [.ref i, .int a]) (.tup [.ref j, .int b]) h = some true := by
  subst hab
  obtain ⟨ys, z1, z2, z3⟩ := pure_list (n := 1) (k := 18) (fun d q => pure_py 1 18 d q (by decide)) (nD xs) (pure_nD xs)
  have e : ∀ k, lstAt h k = some (nD xs) → toPy h 20 (.tup [.ref k, .int a]) = some (.tuple [.list ys, .int a]) := fun k l => by
    have := lstAt_some l
    show ([D.ref k, D.int a].mapM (toPy h 19)).map PyData.tuple = _
    have r : toPy h 19 (.ref k) = some (.list ys) := by
      show (match h[k]? with | some (.lst xs) => (xs.mapM (toPy h 18)).map PyData.list | _ => none) = _
      rw [this]
      dsimp only
      rw [z1 h]
      rfl
    simp only [List.mapM_cons, r, List.mapM_nil]
    rfl
  have c : (PyData.tuple [.list ys, .int a]).canLay0 = true := by
    simp only [PyData.canLay0, PyData.canLayAll0, z2, Bool.and_true, Bool.and_self]
  have dp : (PyData.tuple [.list ys, .int a]).depth ≤ 4 := by simp only [PyData.depth, PyData.depthAll]; omega
  unfold eqB
  simp only [scalD, e i li, e j lj, shaped_of c dp (by omega), Bool.and_self, if_true, SeqAt.eqv_refl _ c]
theorem ne_tl {i j : Nat} {h : DH} {xs : List Nat} {a b : Int} (hab : a = b) (li : lstAt h i = some (nD xs)) (lj : lstAt h j = some (nD xs)) : neD (.tup [.ref i, .int a]) (.tup [.ref j, .int b]) h = some (.bl false, h) := by
  unfold neD; rw [eqB_tl hab li lj]; rfl
theorem eq_tl {i j : Nat} {h : DH} {xs : List Nat} {a b : Int} (hab : a = b) (li : lstAt h i = some (nD xs)) (lj : lstAt h j = some (nD xs)) : eqD (.tup [.ref i, .int a]) (.tup [.ref j, .int b]) h = some (.bl true, h) := by
  unfold eqD; rw [eqB_tl hab li lj]; rfl
theorem ne_ti {a b x y : Int} {h : DH} (h1 : a = x) (h2 : b = y) : neD (.tup [.int a, .int b]) (.tup [.int x, .int y]) h = some (.bl false, h) := by
  subst h1 h2
  refine ne_pure (n := 2) h (fun z hz => ?_) (by decide)
  simp only [List.mem_cons, List.not_mem_nil, or_false] at hz
  rcases hz with rfl | rfl <;> trivial
theorem lst_appk (h l : DH) (k : Nat) : lstAt (h ++ l) (h.length + k) = lstAt l k := by
  unfold lstAt
  rw [List.getElem?_append_right (Nat.le_add_right _ _), Nat.add_sub_cancel_left]
theorem lst_appz (h l : DH) : lstAt (h ++ l) h.length = lstAt l 0 := lst_appk h l 0
theorem lst_c0 (xs : List D) (l : DH) : lstAt (Ob.lst xs :: l) 0 = some xs := rfl
theorem lst_cs (o : Ob) (l : DH) (k : Nat) : lstAt (o :: l) (k + 1) = lstAt l k := rfl
theorem lst_c1 (o : Ob) (xs : List D) (l : DH) : lstAt (o :: Ob.lst xs :: l) 1 = some xs := rfl
theorem lst_c2 (o o2 : Ob) (xs : List D) (l : DH) : lstAt (o :: o2 :: Ob.lst xs :: l) 2 = some xs := rfl
theorem lst_c3 (o o2 o3 : Ob) (xs : List D) (l : DH) : lstAt (o :: o2 :: o3 :: Ob.lst xs :: l) 3 = some xs := rfl
theorem lst_all {h : DH} {i : Nat} {xs : List D} (l : lstAt h i = some xs) (m : DH) : lstAt (h ++ m) i = some xs := Grow.lst ⟨m, rfl⟩ l
/-- what the law is to give -/
def LawQ : Fl → DE → DH → Prop := End (fun d _ => d = .bl true) fun _ _ _ => False
theorem lawq_ret {d : D} {e : DE} {h : DH} : LawQ (.ret d) e h ↔ d = .bl true := Iff.rfl
def t1 (F : Call) : MS := asg (.nm 1) (op2 modD (opN (bltD .abs) [callM F 13 [var 0, Dd.ret (.int 0)]]) (Dd.ret (.int 34359738368)))
def t2 (F : Call) : MS := asg (.nm 2) (callM F 15 [var 1])
def t3 (F : Call) : MS := ifS (orT (tst (op2 neD (callM F 0 [var 1]) (var 2))) (tst (op2 neD (callM F 1 [op2 addD (op2 addD (opN lstM [Dd.ret (.int 9)]) (var 2)) (opN lstM [Dd.ret (.int 200), Dd.ret (.int 3)]), Dd.ret (.int 1)]) (opN tupM [var 1, op2 addD (Dd.ret (.int 1)) (opN (bltD .len) [var 2])])))) (seq (retS (Dd.ret (.bl false))) (skip)) (skip)
def t4 (F : Call) : MS := ifS (orT (notT (tru truD (callM F 21 [Dd.ret (.int 0), sliceM (var 2) (Dd.ret none) (intOf (op2 subD (opN (bltD .len) [var 2]) (Dd.ret (.int 1)))), Dd.ret (.int 0), Dd.ret (.int 0)]))) (orT (notT (tru truD (callM F 21 [Dd.ret (.int 0), opN lstM [Dd.ret (.int 128), Dd.ret (.int 0)], Dd.ret (.int 0), Dd.ret (.int 0)]))) (notT (tru truD (callM F 21 [Dd.ret (.int 0), op2 mulD (opN lstM [Dd.ret (.int 255)]) (Dd.ret (.int 6)), Dd.ret (.int 0), Dd.ret (.int 0)]))))) (seq (retS (Dd.ret (.bl false))) (skip)) (skip)
def t5 (F : Call) : MS := asg (.nm 3) (callM F 13 [var 0, Dd.ret (.int 1)])
def t6 (F : Call) : MS := ifS (orT (tst (op2 neD (callM F 2 [var 3]) (callM F 16 [var 3]))) (tst (op2 neD (callM F 3 [op2 addD (callM F 16 [var 3]) (opN lstM [Dd.ret (.int 1)]), Dd.ret (.int 0)]) (opN tupM [op2 modD (opN (bltD .int) [var 3]) (Dd.ret (.int 4294967296)), Dd.ret (.int 4)])))) (seq (retS (Dd.ret (.bl false))) (skip)) (skip)
def t7 (F : Call) : MS := asg (.nm 4) (op2 subD (op2 modD (opN (bltD .int) [var 3]) (Dd.ret (.int 8589934592))) (Dd.ret (.int 4294967296)))
def t8 (F : Call) : MS := asg (.nm 5) (op2 ixD (opN lstM [op2 mulD (Dd.ret (.int 2)) (var 4), op2 subD (op2 subD (Dd.ret (.int 0)) (op2 mulD (Dd.ret (.int 2)) (var 4))) (Dd.ret (.int 1))]) (opN (bltD .int) [op2 ltD (var 4) (Dd.ret (.int 0))]))
def t9 (F : Call) : MS := ifS (orT (tst (op2 neD (callM F 4 [var 4]) (var 5))) (orT (tst (op2 neD (callM F 5 [var 5]) (var 4))) (notT (tru truD (callM F 21 [Dd.ret (.int 3), opN lstM [Dd.ret (.int 1), Dd.ret (.int 2), Dd.ret (.int 3)], Dd.ret (.int 0), Dd.ret (.int 0)]))))) (seq (retS (Dd.ret (.bl false))) (skip)) (skip)
def t10 (F : Call) : MS := asg (.nm 6) (op2 modD (opN (bltD .abs) [callM F 13 [var 0, Dd.ret (.int 2)]]) (Dd.ret (.int 13)))
def t11 (F : Call) : MS := asg (.nm 7) (Dd.ret (.int 1))
def t12 (F : Call) : MS := forS (bnd (var 6) fun x => lift (rng1 x)) (.nm 8) (seq (asg (.nm 7) (op2 mulD (var 7) (Dd.ret (.int 2)))) (skip))
def t13 (F : Call) : MS := asg (.nm 9) (lcM [14] (bnd (callM F 14 [callM F 13 [var 0, Dd.ret (.int 3)], op2 addD (Dd.ret (.int 1)) (op2 modD (opN (bltD .abs) [callM F 13 [var 0, Dd.ret (.int 2)]]) (Dd.ret (.int 17)))]) fun x => lift (srcD x)) (.nm 14) (Dd.ret true) (op2 modD (opN (bltD .int) [var 14]) (var 7)))
def t14 (F : Call) : MS := asg (.nm 10) (callM F 18 [var 9, var 6])
def t15 (F : Call) : MS := ifS (orT (tst (op2 neD (callM F 6 [op2 subD (var 7) (Dd.ret (.int 1))]) (var 6))) (orT (tst (op2 neD (callM F 6 [var 7]) (op2 addD (var 6) (Dd.ret (.int 1))))) (tst (op2 neD (callM F 7 [var 9, var 6]) (var 10))))) (seq (retS (Dd.ret (.bl false))) (skip)) (skip)
def t16 (F : Call) : MS := ifS (tst (op2 neD (callM F 8 [op2 addD (op2 addD (opN lstM [Dd.ret (.int 7)]) (var 10)) (opN lstM [Dd.ret (.int 1)]), Dd.ret (.int 1), opN (bltD .len) [var 9], var 6]) (opN tupM [var 9, op2 addD (Dd.ret (.int 1)) (opN (bltD .len) [var 10])]))) (seq (retS (Dd.ret (.bl false))) (skip)) (skip)
def t17 (F : Call) : MS := ifS (andT (tst (op2 gtD (opN (bltD .len) [var 10]) (Dd.ret (.int 0)))) (notT (tru truD (callM F 21 [Dd.ret (.int 2), sliceM (var 10) (Dd.ret none) (intOf (op2 subD (opN (bltD .len) [var 10]) (Dd.ret (.int 1)))), opN (bltD .len) [var 9], var 6])))) (seq (retS (Dd.ret (.bl false))) (skip)) (skip)
def t18 (F : Call) : MS := ifS (andT (tst (op2 gtD (op2 modD (opN (bltD .int) [op2 mulD (opN (bltD .len) [var 9]) (var 6)]) (Dd.ret (.int 8))) (Dd.ret (.int 0)))) (notT (tru truD (callM F 21 [Dd.ret (.int 2), op2 addD (sliceM (var 10) (Dd.ret none) (intOf (op2 subD (opN (bltD .len) [var 10]) (Dd.ret (.int 1))))) (opN lstM [Dd.ret (.int 255)]), opN (bltD .len) [var 9], var 6])))) (seq (retS (Dd.ret (.bl false))) (skip)) (skip)
def t19 (F : Call) : MS := asg (.nm 11) (op2 ixD (opN lstM [Dd.ret (.int 0), Dd.ret (.int 1), Dd.ret (.int 2), Dd.ret (.int 3), Dd.ret (.int 7), Dd.ret (.int 300), Dd.ret (.int 70000)]) (op2 modD (opN (bltD .abs) [callM F 13 [var 0, Dd.ret (.int 4)]]) (Dd.ret (.int 7))))
def t20 (F : Call) : MS := forS (bnd (Dd.ret (.int 5)) fun x => bnd (opN (bltD .min) [opN (bltD .len) [var 0], Dd.ret (.int 10)]) fun y => lift (rng2 x y)) (.nm 8) (seq (asg (.nm 12) (callM F 22 [callM F 13 [var 0, var 8], var 11])) (seq (asg (.nm 13) (callM F 20 [var 12, var 11])) (seq (ifS (orT (tst (op2 neD (callM F 9 [var 12, var 11]) (var 13))) (tst (op2 neD (callM F 12 [op2 addD (op2 addD (opN lstM [Dd.ret (.int 3)]) (var 13)) (opN lstM [Dd.ret (.int 77)]), Dd.ret (.int 1), opN (bltD .len) [var 12], var 11]) (opN tupM [var 12, op2 addD (Dd.ret (.int 1)) (opN (bltD .len) [var 13])])))) (seq (retS (Dd.ret (.bl false))) (skip)) (skip)) (seq (ifS (andT (tst (op2 gtD (opN (bltD .len) [var 13]) (Dd.ret (.int 0)))) (notT (tru truD (callM F 21 [Dd.ret (.int 1), sliceM (var 13) (Dd.ret none) (intOf (op2 subD (opN (bltD .len) [var 13]) (Dd.ret (.int 1)))), opN (bltD .len) [var 12], var 11])))) (seq (retS (Dd.ret (.bl false))) (skip)) (skip)) (seq (ifS (andT (tst (op2 gtD (var 11) (Dd.ret (.int 0)))) (andT (notT (tru truD (callM F 21 [Dd.ret (.int 1), op2 addD (callM F 15 [op2 addD (op2 mulD (Dd.ret (.int 2)) (opN (bltD .len) [var 12])) (Dd.ret (.int 2))]) (opN lstM [Dd.ret (.int 0)]), opN (bltD .len) [var 12], var 11]))) (tst (op2 gtD (opN (bltD .len) [var 12]) (Dd.ret (.int 0)))))) (seq (retS (Dd.ret (.bl false))) (skip)) (skip)) (skip))))))
def t21 (F : Call) : MS := retS (op2 eqD (callM F 12 [opN lstM [Dd.ret (.int 2), Dd.ret (.int 1), Dd.ret (.int 3), Dd.ret (.int 2)], Dd.ret (.int 0), Dd.ret (.int 2), Dd.ret (.int 3)]) (opN tupM [opN lstM [Dd.ret (.int 1), Dd.ret (.int 2)], Dd.ret (.int 4)]))
def tR22 (F : Call) : MS := skip
def tR21 (F : Call) : MS := seq (t21 F) (tR22 F)
def tR20 (F : Call) : MS := seq (t20 F) (tR21 F)
def tR19 (F : Call) : MS := seq (t19 F) (tR20 F)
def tR18 (F : Call) : MS := seq (t18 F) (tR19 F)
def tR17 (F : Call) : MS := seq (t17 F) (tR18 F)
def tR16 (F : Call) : MS := seq (t16 F) (tR17 F)
def tR15 (F : Call) : MS := seq (t15 F) (tR16 F)
def tR14 (F : Call) : MS := seq (t14 F) (tR15 F)
def tR13 (F : Call) : MS := seq (t13 F) (tR14 F)
def tR12 (F : Call) : MS := seq (t12 F) (tR13 F)
def tR11 (F : Call) : MS := seq (t11 F) (tR12 F)
def tR10 (F : Call) : MS := seq (t10 F) (tR11 F)
def tR9 (F : Call) : MS := seq (t9 F) (tR10 F)
def tR8 (F : Call) : MS := seq (t8 F) (tR9 F)
def tR7 (F : Call) : MS := seq (t7 F) (tR8 F)
def tR6 (F : Call) : MS := seq (t6 F) (tR7 F)
def tR5 (F : Call) : MS := seq (t5 F) (tR6 F)
def tR4 (F : Call) : MS := seq (t4 F) (tR5 F)
def tR3 (F : Call) : MS := seq (t3 F) (tR4 F)
def tR2 (F : Call) : MS := seq (t2 F) (tR3 F)
def tR1 (F : Call) : MS := seq (t1 F) (tR2 F)
theorem t_eq (F : Call) : b23 F = tR1 F := rfl
theorem R21 (c : Nat) (e : DE) (h : DH) : WP (tR21 (pg.run (c + 4))) e h LawQ := by
  have zz : Z = 16777216 := rfl
  unfold tR21 tR22 t21
  simp [Dd.we_ret, Dd.we_bnd, Dd.we_lift, Dd.we_var, Dd.we_args_nil, Dd.we_args_cons, Dd.we_opN, Dd.we_op1, Dd.we_op2, Dd.we_call, Dd.we_tst, Dd.we_tru, Dd.we_notT, Dd.we_andT, Dd.we_orT, Dd.we_notV, Dd.we_andV, Dd.we_orV, Dd.we_ite, Dd.we_chn, Dd.we_mth, Dd.we_slice, Dd.we_intOf, Dd.nx_next, Dd.nx_ret, Dd.nx_ex, Dd.td_next, Dd.td_cont, Dd.td_brk, Dd.td_ret, Dd.td_ex, Dd.nx_brk, Dd.nx_cont, Dd.wp_skip, Dd.wp_seq, Dd.wp_drop, Dd.wp_ret, Dd.wp_asg, Dd.wp_if, Dd.wp_raise, Dd.wp_set, Dk.wp_aug, Dk.wp_brk, Dk.p_and127, Dk.p_and255, Dk.p_and1, Dk.p_shr8, Dk.p_shr16, Dk.p_shr24, Dk.p_ashr7, Dk.p_ashr8, Dk.p_aadd, Dk.p_asub, Dd.WO, Dk.eq_ss, Dk.ne_ss, Dk.eq_ii, Dk.ne_ii, Dk.isNot_non, Dk.q_add, Dk.q_addt, Dk.q_sub, Dk.q_mod, Dk.q_fdiv, Dk.q_mulr, Dk.q_mull, Dk.q_neg, Dk.q_lt, Dk.q_le, Dk.q_gt, Dk.q_ge, Dk.q_ix0, Dk.q_ix1, Dk.q_ix2, Dk.q_is_t, Dk.q_is_s, Dk.q_is_lt, Dk.q_is_ll, Dk.q_tru, Dk.q_lent, Dk.q_lenr, Dk.q_int, Dk.q_intb, Dk.q_abs, Dk.q_tupr, Dk.q_lstt, Dk.q_lst, Dk.q_tup, Dk.q_oka, Dk.q_oke, Dk.q_okj, Dk.q_app, Dk.q_ext, Dk.q_nm, Dk.q_tp, Dk.q_sa0, Dk.q_sa1, Dk.q_isn, Dk.q_isb, Dk.q_wipe0, Dk.q_wipe1, lawq_ret, newOb]
  refine (w12 (c + 2) h.length 0 2 3 [2, 1, 3, 2] _ lst_new (by decide) (by decide) (by decide)).mono ?_ ?_
  · rintro d h2 ⟨f, vs, l, rfl, hf, g, l1, q⟩
    have q2 : tkLev 3 2 [2, 1, 3, 2] = some ([1, 2], 4) := by decide
    rw [List.drop_zero, q2] at q
    cases q
    have l2 : lstAt (h2 ++ [Ob.lst [D.int 1, D.int 2]]) h2.length = some (nD [1, 2]) := lst_new
    rw [eq_tl (by rfl : ((0 + 4 : Nat) : Int) = 4) ((Grow.one _ _).lst l1) l2]
  · rintro c p h2 ⟨rfl, g, q⟩
    have q2 : tkLev 3 2 [2, 1, 3, 2] = some ([1, 2], 4) := by decide
    rw [List.drop_zero, q2] at q
    cases q
end Dk

set_option Elab.async false
set_option linter.all false
set_option maxRecDepth 100000
set_option maxHeartbeats 4000000
namespace Dk
open PySem PySem.Spec PyProof.Rows L2 Dd

theorem w13i (n : Nat) (ns : List Int) (k : Nat) (h : DH) (v : Int) (hv : v = (k : Int)) : WC (pg.run (n + 1)) 13 [.frz ns, .int v] h (fun d h' => d = .int (cellN ns k) ∧ h' = h) fun _ _ _ => False := by
  rw [hv]; exact w13 n ns k h
theorem w21_1f (c i : Nat) (bs : List Nat) (k m : Nat) (h : DH) (l : lstAt h i = some (nD bs)) (hb : ∀ b ∈ bs, b < 256) (hm : m < 34359738368) (hk : k ≤ 999999) (hn : tkLev m k bs ≠ none) : WC (pg.run (c + 3)) 21 [.int 1, .ref i, .int (k : Int), .int (m : Int)] h (fun d h' => d = .bl false ∧ Grow h h') fun _ _ _ => False := by
  refine wc_of (f := f21) rfl e21 rfl ?_
  unfold b21
  rw [wp_seq]
  refine wp_try0 ?_
  simp [startD, f21, Dd.we_ret, Dd.we_bnd, Dd.we_lift, Dd.we_var, Dd.we_args_nil, Dd.we_args_cons, Dd.we_opN, Dd.we_op1, Dd.we_op2, Dd.we_call, Dd.we_tst, Dd.we_tru, Dd.we_notT, Dd.we_andT, Dd.we_orT, Dd.we_notV, Dd.we_andV, Dd.we_orV, Dd.we_ite, Dd.we_chn, Dd.we_mth, Dd.we_slice, Dd.we_intOf, Dd.nx_next, Dd.nx_ret, Dd.nx_ex, Dd.td_next, Dd.td_cont, Dd.td_brk, Dd.td_ret, Dd.td_ex, Dd.nx_brk, Dd.nx_cont, Dd.wp_skip, Dd.wp_seq, Dd.wp_drop, Dd.wp_ret, Dd.wp_asg, Dd.wp_if, Dd.wp_raise, Dd.wp_set, Dk.wp_aug, Dk.wp_brk, Dk.p_and127, Dk.p_and255, Dk.p_and1, Dk.p_shr8, Dk.p_shr16, Dk.p_shr24, Dk.p_ashr7, Dk.p_ashr8, Dk.p_aadd, Dk.p_asub, Dd.WO, Dk.eq_ss, Dk.ne_ss, Dk.eq_ii, Dk.ne_ii, Dk.isNot_non, Dk.q_add, Dk.q_addt, Dk.q_sub, Dk.q_mod, Dk.q_fdiv, Dk.q_mulr, Dk.q_mull, Dk.q_neg, Dk.q_lt, Dk.q_le, Dk.q_gt, Dk.q_ge, Dk.q_ix0, Dk.q_ix1, Dk.q_ix2, Dk.q_is_t, Dk.q_is_s, Dk.q_is_lt, Dk.q_is_ll, Dk.q_tru, Dk.q_lent, Dk.q_lenr, Dk.q_int, Dk.q_intb, Dk.q_abs, Dk.q_tupr, Dk.q_lstt, Dk.q_lst, Dk.q_tup, Dk.q_oka, Dk.q_oke, Dk.q_okj, Dk.q_app, Dk.q_ext, Dk.q_nm, Dk.q_tp, Dk.q_sa0, Dk.q_sa1, Dk.q_isn, Dk.q_isb, Dk.q_wipe0, Dk.q_wipe1]
  refine (w12 c i 0 k m bs h l hb hm hk).mono ?_ ?_
  · rintro d h2 ⟨f, vs, b, rfl, -, g, -, q⟩
    simp [Dd.we_ret, Dd.we_bnd, Dd.we_lift, Dd.we_var, Dd.we_args_nil, Dd.we_args_cons, Dd.we_opN, Dd.we_op1, Dd.we_op2, Dd.we_call, Dd.we_tst, Dd.we_tru, Dd.we_notT, Dd.we_andT, Dd.we_orT, Dd.we_notV, Dd.we_andV, Dd.we_orV, Dd.we_ite, Dd.we_chn, Dd.we_mth, Dd.we_slice, Dd.we_intOf, Dd.nx_next, Dd.nx_ret, Dd.nx_ex, Dd.td_next, Dd.td_cont, Dd.td_brk, Dd.td_ret, Dd.td_ex, Dd.nx_brk, Dd.nx_cont, Dd.wp_skip, Dd.wp_seq, Dd.wp_drop, Dd.wp_ret, Dd.wp_asg, Dd.wp_if, Dd.wp_raise, Dd.wp_set, Dk.wp_aug, Dk.wp_brk, Dk.p_and127, Dk.p_and255, Dk.p_and1, Dk.p_shr8, Dk.p_shr16, Dk.p_shr24, Dk.p_ashr7, Dk.p_ashr8, Dk.p_aadd, Dk.p_asub, Dd.WO, Dk.eq_ss, Dk.ne_ss, Dk.eq_ii, Dk.ne_ii, Dk.isNot_non, Dk.q_add, Dk.q_addt, Dk.q_sub, Dk.q_mod, Dk.q_fdiv, Dk.q_mulr, Dk.q_mull, Dk.q_neg, Dk.q_lt, Dk.q_le, Dk.q_gt, Dk.q_ge, Dk.q_ix0, Dk.q_ix1, Dk.q_ix2, Dk.q_is_t, Dk.q_is_s, Dk.q_is_lt, Dk.q_is_ll, Dk.q_tru, Dk.q_lent, Dk.q_lenr, Dk.q_int, Dk.q_intb, Dk.q_abs, Dk.q_tupr, Dk.q_lstt, Dk.q_lst, Dk.q_tup, Dk.q_oka, Dk.q_oke, Dk.q_okj, Dk.q_app, Dk.q_ext, Dk.q_nm, Dk.q_tp, Dk.q_sa0, Dk.q_sa1, Dk.q_isn, Dk.q_isb, Dk.q_wipe0, Dk.q_wipe1, end_ret]
    exact g
  · rintro c p h2 ⟨rfl, g, q⟩
    rw [List.drop_zero] at q
    exact absurd q hn
theorem cut_last {xs : List Nat} (h0 : xs ≠ []) : cutD (nD xs) none (some ((xs.length : Int) - 1)) = nD xs.dropLast := by
  have : 0 < xs.length := List.length_pos_iff.mpr h0
  rw [show (xs.length : Int) - 1 = ((xs.length - 1 : Nat) : Int) from by omega, cut_to (by rw [nD_len]; omega), nD_take, List.dropLast_eq_take]
def u1 (F : Call) : MS := asg (.nm 12) (callM F 22 [callM F 13 [var 0, var 8], var 11])
def u2 (F : Call) : MS := asg (.nm 13) (callM F 20 [var 12, var 11])
def u3 (F : Call) : MS := ifS (orT (tst (op2 neD (callM F 9 [var 12, var 11]) (var 13))) (tst (op2 neD (callM F 12 [op2 addD (op2 addD (opN lstM [Dd.ret (.int 3)]) (var 13)) (opN lstM [Dd.ret (.int 77)]), Dd.ret (.int 1), opN (bltD .len) [var 12], var 11]) (opN tupM [var 12, op2 addD (Dd.ret (.int 1)) (opN (bltD .len) [var 13])])))) (seq (retS (Dd.ret (.bl false))) (skip)) (skip)
def u4 (F : Call) : MS := ifS (andT (tst (op2 gtD (opN (bltD .len) [var 13]) (Dd.ret (.int 0)))) (notT (tru truD (callM F 21 [Dd.ret (.int 1), sliceM (var 13) (Dd.ret none) (intOf (op2 subD (opN (bltD .len) [var 13]) (Dd.ret (.int 1)))), opN (bltD .len) [var 12], var 11])))) (seq (retS (Dd.ret (.bl false))) (skip)) (skip)
def u5 (F : Call) : MS := ifS (andT (tst (op2 gtD (var 11) (Dd.ret (.int 0)))) (andT (notT (tru truD (callM F 21 [Dd.ret (.int 1), op2 addD (callM F 15 [op2 addD (op2 mulD (Dd.ret (.int 2)) (opN (bltD .len) [var 12])) (Dd.ret (.int 2))]) (opN lstM [Dd.ret (.int 0)]), opN (bltD .len) [var 12], var 11]))) (tst (op2 gtD (opN (bltD .len) [var 12]) (Dd.ret (.int 0)))))) (seq (retS (Dd.ret (.bl false))) (skip)) (skip)
theorem t20_eq (F : Call) : t20 F = forS (bnd (Dd.ret (.int 5)) fun x => bnd (opN (bltD .min) [opN (bltD .len) [var 0], Dd.ret (.int 10)]) fun y => lift (rng2 x y)) (.nm 8) (seq (u1 F) (seq (u2 F) (seq (u3 F) (seq (u4 F) (seq (u5 F) skip))))) := rfl
section
variable {e : DE} {h : DH} {Q : Fl → DE → DH → Prop} {f p most : Nat} {row lv : List Nat}
theorem cons_nD (n : Nat) (xs : List Nat) : D.int (n : Int) :: nD xs = nD (n :: xs) := rfl
theorem u3_ok (c : Nat) (e11 : e[11]? = some (some (.int (most : Int)))) (e12 : e[12]? = some (some (.ref f))) (e13 : e[13]? = some (some (.ref p))) (l3 : lstAt h f = some (nD row)) (l4 : lstAt h p = some (nD lv)) (hm : most ≤ 70000) (r1 : ∀ x ∈ row, x ≤ most) (r2 : row.length ≤ 216) (hlv : lv = levB most row) (lvl : lv.length ≤ 4000)
    (fin : ∀ h', Grow h h' → Q .next e h') : WP (u3 (pg.run (c + 4))) e h Q := by
  have zz : Z = 16777216 := rfl
  unfold u3
  simp [Dd.we_ret, Dd.we_bnd, Dd.we_lift, Dd.we_var, Dd.we_args_nil, Dd.we_args_cons, Dd.we_opN, Dd.we_op1, Dd.we_op2, Dd.we_call, Dd.we_tst, Dd.we_tru, Dd.we_notT, Dd.we_andT, Dd.we_orT, Dd.we_notV, Dd.we_andV, Dd.we_orV, Dd.we_ite, Dd.we_chn, Dd.we_mth, Dd.we_slice, Dd.we_intOf, Dd.nx_next, Dd.nx_ret, Dd.nx_ex, Dd.td_next, Dd.td_cont, Dd.td_brk, Dd.td_ret, Dd.td_ex, Dd.nx_brk, Dd.nx_cont, Dd.wp_skip, Dd.wp_seq, Dd.wp_drop, Dd.wp_ret, Dd.wp_asg, Dd.wp_if, Dd.wp_raise, Dd.wp_set, Dk.wp_aug, Dk.wp_brk, Dk.p_and127, Dk.p_and255, Dk.p_and1, Dk.p_shr8, Dk.p_shr16, Dk.p_shr24, Dk.p_ashr7, Dk.p_ashr8, Dk.p_aadd, Dk.p_asub, Dd.WO, Dk.eq_ss, Dk.ne_ss, Dk.eq_ii, Dk.ne_ii, Dk.isNot_non, Dk.q_add, Dk.q_addt, Dk.q_sub, Dk.q_mod, Dk.q_fdiv, Dk.q_mulr, Dk.q_mull, Dk.q_neg, Dk.q_lt, Dk.q_le, Dk.q_gt, Dk.q_ge, Dk.q_ix0, Dk.q_ix1, Dk.q_ix2, Dk.q_is_t, Dk.q_is_s, Dk.q_is_lt, Dk.q_is_ll, Dk.q_tru, Dk.q_lent, Dk.q_lenr, Dk.q_int, Dk.q_intb, Dk.q_abs, Dk.q_tupr, Dk.q_lstt, Dk.q_lst, Dk.q_tup, Dk.q_oka, Dk.q_oke, Dk.q_okj, Dk.q_app, Dk.q_ext, Dk.q_nm, Dk.q_tp, Dk.q_sa0, Dk.q_sa1, Dk.q_isn, Dk.q_isb, Dk.q_wipe0, Dk.q_wipe1, e11, e12, e13]
  refine (w9 (c + 1) f most row h l3 r1 (by omega) (by omega)).mono ?_ fun _ _ _ z => z.elim
  rintro d h5 ⟨rfl, g5, l5⟩
  have l3 := g5.lst l3
  have l4 := g5.lst l4
  rw [← hlv] at l5
  have z1 : 1 + lv.length ≤ Z := by omega
  have z2 : lv.length + 1 + 1 ≤ Z := by omega
  simp [Dd.we_ret, Dd.we_bnd, Dd.we_lift, Dd.we_var, Dd.we_args_nil, Dd.we_args_cons, Dd.we_opN, Dd.we_op1, Dd.we_op2, Dd.we_call, Dd.we_tst, Dd.we_tru, Dd.we_notT, Dd.we_andT, Dd.we_orT, Dd.we_notV, Dd.we_andV, Dd.we_orV, Dd.we_ite, Dd.we_chn, Dd.we_mth, Dd.we_slice, Dd.we_intOf, Dd.nx_next, Dd.nx_ret, Dd.nx_ex, Dd.td_next, Dd.td_cont, Dd.td_brk, Dd.td_ret, Dd.td_ex, Dd.nx_brk, Dd.nx_cont, Dd.wp_skip, Dd.wp_seq, Dd.wp_drop, Dd.wp_ret, Dd.wp_asg, Dd.wp_if, Dd.wp_raise, Dd.wp_set, Dk.wp_aug, Dk.wp_brk, Dk.p_and127, Dk.p_and255, Dk.p_and1, Dk.p_shr8, Dk.p_shr16, Dk.p_shr24, Dk.p_ashr7, Dk.p_ashr8, Dk.p_aadd, Dk.p_asub, Dd.WO, Dk.eq_ss, Dk.ne_ss, Dk.eq_ii, Dk.ne_ii, Dk.isNot_non, Dk.q_add, Dk.q_addt, Dk.q_sub, Dk.q_mod, Dk.q_fdiv, Dk.q_mulr, Dk.q_mull, Dk.q_neg, Dk.q_lt, Dk.q_le, Dk.q_gt, Dk.q_ge, Dk.q_ix0, Dk.q_ix1, Dk.q_ix2, Dk.q_is_t, Dk.q_is_s, Dk.q_is_lt, Dk.q_is_ll, Dk.q_tru, Dk.q_lent, Dk.q_lenr, Dk.q_int, Dk.q_intb, Dk.q_abs, Dk.q_tupr, Dk.q_lstt, Dk.q_lst, Dk.q_tup, Dk.q_oka, Dk.q_oke, Dk.q_okj, Dk.q_app, Dk.q_ext, Dk.q_nm, Dk.q_tp, Dk.q_sa0, Dk.q_sa1, Dk.q_isn, Dk.q_isb, Dk.q_wipe0, Dk.q_wipe1, e11, e12, e13, ne_nD l5 l4, newOb, q_addr, lst_appk, lst_appz, lst_c0, lst_c1, lst_c2, lst_c3, lst_all l4, z1, nD_len, z2, lstAt_some (lst_all l3 _), lstAt_some (lst_all l4 _)]
  have l6 : lstAt (h5 ++ [Ob.lst [D.int 3], Ob.lst (D.int 3 :: nD lv), Ob.lst [D.int 77], Ob.lst (D.int 3 :: (nD lv ++ [D.int 77]))]) (h5.length + 3) = some (nD ([3] ++ (lv ++ [77]))) := by rw [lst_appk, lst_c3, nD_app, nD_app]; rfl
  have bl : ∀ x ∈ [3] ++ (lv ++ [77]), x < 256 := by
    intro x hx
    rcases List.mem_append.mp hx with hx | hx
    · rw [List.mem_singleton.mp hx]; decide
    · rcases List.mem_append.mp hx with hx | hx
      · rw [hlv] at hx; exact levB_lt _ _ x hx
      · rw [List.mem_singleton.mp hx]; decide
  have q2 : tkLev most row.length (([3] ++ (lv ++ [77])).drop 1) = some (row, lv.length) := by
    rw [List.singleton_append, List.drop_succ_cons, List.drop_zero, hlv]
    exact tkLev_levB row [77] (by omega) r1 (by omega)
  refine (w12 (c + 2) _ 1 row.length most _ _ l6 bl (by omega) (by omega)).mono ?_ ?_
  · rintro d h6 ⟨f2, vs, l, rfl, hf2, g6, l7, q⟩
    rw [q2] at q
    cases q
    have g7 := (Grow.trans ⟨_, rfl⟩ g6 : Grow h5 h6)
    simp [Dd.we_ret, Dd.we_bnd, Dd.we_lift, Dd.we_var, Dd.we_args_nil, Dd.we_args_cons, Dd.we_opN, Dd.we_op1, Dd.we_op2, Dd.we_call, Dd.we_tst, Dd.we_tru, Dd.we_notT, Dd.we_andT, Dd.we_orT, Dd.we_notV, Dd.we_andV, Dd.we_orV, Dd.we_ite, Dd.we_chn, Dd.we_mth, Dd.we_slice, Dd.we_intOf, Dd.nx_next, Dd.nx_ret, Dd.nx_ex, Dd.td_next, Dd.td_cont, Dd.td_brk, Dd.td_ret, Dd.td_ex, Dd.nx_brk, Dd.nx_cont, Dd.wp_skip, Dd.wp_seq, Dd.wp_drop, Dd.wp_ret, Dd.wp_asg, Dd.wp_if, Dd.wp_raise, Dd.wp_set, Dk.wp_aug, Dk.wp_brk, Dk.p_and127, Dk.p_and255, Dk.p_and1, Dk.p_shr8, Dk.p_shr16, Dk.p_shr24, Dk.p_ashr7, Dk.p_ashr8, Dk.p_aadd, Dk.p_asub, Dd.WO, Dk.eq_ss, Dk.ne_ss, Dk.eq_ii, Dk.ne_ii, Dk.isNot_non, Dk.q_add, Dk.q_addt, Dk.q_sub, Dk.q_mod, Dk.q_fdiv, Dk.q_mulr, Dk.q_mull, Dk.q_neg, Dk.q_lt, Dk.q_le, Dk.q_gt, Dk.q_ge, Dk.q_ix0, Dk.q_ix1, Dk.q_ix2, Dk.q_is_t, Dk.q_is_s, Dk.q_is_lt, Dk.q_is_ll, Dk.q_tru, Dk.q_lent, Dk.q_lenr, Dk.q_int, Dk.q_intb, Dk.q_abs, Dk.q_tupr, Dk.q_lstt, Dk.q_lst, Dk.q_tup, Dk.q_oka, Dk.q_oke, Dk.q_okj, Dk.q_app, Dk.q_ext, Dk.q_nm, Dk.q_tp, Dk.q_sa0, Dk.q_sa1, Dk.q_isn, Dk.q_isb, Dk.q_wipe0, Dk.q_wipe1, e11, e12, e13, lstAt_some (g7.lst l4), nD_len]
    rw [ne_tl rfl l7 (g7.lst l3)]
    simp [Dd.we_ret, Dd.we_bnd, Dd.we_lift, Dd.we_var, Dd.we_args_nil, Dd.we_args_cons, Dd.we_opN, Dd.we_op1, Dd.we_op2, Dd.we_call, Dd.we_tst, Dd.we_tru, Dd.we_notT, Dd.we_andT, Dd.we_orT, Dd.we_notV, Dd.we_andV, Dd.we_orV, Dd.we_ite, Dd.we_chn, Dd.we_mth, Dd.we_slice, Dd.we_intOf, Dd.nx_next, Dd.nx_ret, Dd.nx_ex, Dd.td_next, Dd.td_cont, Dd.td_brk, Dd.td_ret, Dd.td_ex, Dd.nx_brk, Dd.nx_cont, Dd.wp_skip, Dd.wp_seq, Dd.wp_drop, Dd.wp_ret, Dd.wp_asg, Dd.wp_if, Dd.wp_raise, Dd.wp_set, Dk.wp_aug, Dk.wp_brk, Dk.p_and127, Dk.p_and255, Dk.p_and1, Dk.p_shr8, Dk.p_shr16, Dk.p_shr24, Dk.p_ashr7, Dk.p_ashr8, Dk.p_aadd, Dk.p_asub, Dd.WO, Dk.eq_ss, Dk.ne_ss, Dk.eq_ii, Dk.ne_ii, Dk.isNot_non, Dk.q_add, Dk.q_addt, Dk.q_sub, Dk.q_mod, Dk.q_fdiv, Dk.q_mulr, Dk.q_mull, Dk.q_neg, Dk.q_lt, Dk.q_le, Dk.q_gt, Dk.q_ge, Dk.q_ix0, Dk.q_ix1, Dk.q_ix2, Dk.q_is_t, Dk.q_is_s, Dk.q_is_lt, Dk.q_is_ll, Dk.q_tru, Dk.q_lent, Dk.q_lenr, Dk.q_int, Dk.q_intb, Dk.q_abs, Dk.q_tupr, Dk.q_lstt, Dk.q_lst, Dk.q_tup, Dk.q_oka, Dk.q_oke, Dk.q_okj, Dk.q_app, Dk.q_ext, Dk.q_nm, Dk.q_tp, Dk.q_sa0, Dk.q_sa1, Dk.q_isn, Dk.q_isb, Dk.q_wipe0, Dk.q_wipe1]
    exact fin _ (g5.trans g7)
  · rintro c p h2 ⟨rfl, g, q⟩
    rw [q2] at q; cases q
theorem u4_ok (c : Nat) (e11 : e[11]? = some (some (.int (most : Int)))) (e12 : e[12]? = some (some (.ref f))) (e13 : e[13]? = some (some (.ref p))) (l3 : lstAt h f = some (nD row)) (l4 : lstAt h p = some (nD lv)) (hm : most ≤ 70000) (r1 : ∀ x ∈ row, x ≤ most) (r2 : row.length ≤ 216) (hlv : lv = levB most row)
    (fin : ∀ h', Grow h h' → Q .next e h') : WP (u4 (pg.run (c + 4))) e h Q := by
  unfold u4
  by_cases c0 : lv = []
  · have c1 : ¬ (0 : Int) < (lv.length : Int) := by rw [c0]; decide
    have c2 : ¬ 0 < lv.length := by rw [c0]; decide
    simp [Dd.we_ret, Dd.we_bnd, Dd.we_lift, Dd.we_var, Dd.we_args_nil, Dd.we_args_cons, Dd.we_opN, Dd.we_op1, Dd.we_op2, Dd.we_call, Dd.we_tst, Dd.we_tru, Dd.we_notT, Dd.we_andT, Dd.we_orT, Dd.we_notV, Dd.we_andV, Dd.we_orV, Dd.we_ite, Dd.we_chn, Dd.we_mth, Dd.we_slice, Dd.we_intOf, Dd.nx_next, Dd.nx_ret, Dd.nx_ex, Dd.td_next, Dd.td_cont, Dd.td_brk, Dd.td_ret, Dd.td_ex, Dd.nx_brk, Dd.nx_cont, Dd.wp_skip, Dd.wp_seq, Dd.wp_drop, Dd.wp_ret, Dd.wp_asg, Dd.wp_if, Dd.wp_raise, Dd.wp_set, Dk.wp_aug, Dk.wp_brk, Dk.p_and127, Dk.p_and255, Dk.p_and1, Dk.p_shr8, Dk.p_shr16, Dk.p_shr24, Dk.p_ashr7, Dk.p_ashr8, Dk.p_aadd, Dk.p_asub, Dd.WO, Dk.eq_ss, Dk.ne_ss, Dk.eq_ii, Dk.ne_ii, Dk.isNot_non, Dk.q_add, Dk.q_addt, Dk.q_sub, Dk.q_mod, Dk.q_fdiv, Dk.q_mulr, Dk.q_mull, Dk.q_neg, Dk.q_lt, Dk.q_le, Dk.q_gt, Dk.q_ge, Dk.q_ix0, Dk.q_ix1, Dk.q_ix2, Dk.q_is_t, Dk.q_is_s, Dk.q_is_lt, Dk.q_is_ll, Dk.q_tru, Dk.q_lent, Dk.q_lenr, Dk.q_int, Dk.q_intb, Dk.q_abs, Dk.q_tupr, Dk.q_lstt, Dk.q_lst, Dk.q_tup, Dk.q_oka, Dk.q_oke, Dk.q_okj, Dk.q_app, Dk.q_ext, Dk.q_nm, Dk.q_tp, Dk.q_sa0, Dk.q_sa1, Dk.q_isn, Dk.q_isb, Dk.q_wipe0, Dk.q_wipe1, e11, e12, e13, lstAt_some l4, nD_len, c1, c2, c0]
    exact fin _ (Grow.refl _)
  · have c2 : 0 < lv.length := List.length_pos_iff.mpr c0
    have c1 : (0 : Int) < (lv.length : Int) := by omega
    simp [Dd.we_ret, Dd.we_bnd, Dd.we_lift, Dd.we_var, Dd.we_args_nil, Dd.we_args_cons, Dd.we_opN, Dd.we_op1, Dd.we_op2, Dd.we_call, Dd.we_tst, Dd.we_tru, Dd.we_notT, Dd.we_andT, Dd.we_orT, Dd.we_notV, Dd.we_andV, Dd.we_orV, Dd.we_ite, Dd.we_chn, Dd.we_mth, Dd.we_slice, Dd.we_intOf, Dd.nx_next, Dd.nx_ret, Dd.nx_ex, Dd.td_next, Dd.td_cont, Dd.td_brk, Dd.td_ret, Dd.td_ex, Dd.nx_brk, Dd.nx_cont, Dd.wp_skip, Dd.wp_seq, Dd.wp_drop, Dd.wp_ret, Dd.wp_asg, Dd.wp_if, Dd.wp_raise, Dd.wp_set, Dk.wp_aug, Dk.wp_brk, Dk.p_and127, Dk.p_and255, Dk.p_and1, Dk.p_shr8, Dk.p_shr16, Dk.p_shr24, Dk.p_ashr7, Dk.p_ashr8, Dk.p_aadd, Dk.p_asub, Dd.WO, Dk.eq_ss, Dk.ne_ss, Dk.eq_ii, Dk.ne_ii, Dk.isNot_non, Dk.q_add, Dk.q_addt, Dk.q_sub, Dk.q_mod, Dk.q_fdiv, Dk.q_mulr, Dk.q_mull, Dk.q_neg, Dk.q_lt, Dk.q_le, Dk.q_gt, Dk.q_ge, Dk.q_ix0, Dk.q_ix1, Dk.q_ix2, Dk.q_is_t, Dk.q_is_s, Dk.q_is_lt, Dk.q_is_ll, Dk.q_tru, Dk.q_lent, Dk.q_lenr, Dk.q_int, Dk.q_intb, Dk.q_abs, Dk.q_tupr, Dk.q_lstt, Dk.q_lst, Dk.q_tup, Dk.q_oka, Dk.q_oke, Dk.q_okj, Dk.q_app, Dk.q_ext, Dk.q_nm, Dk.q_tp, Dk.q_sa0, Dk.q_sa1, Dk.q_isn, Dk.q_isb, Dk.q_wipe0, Dk.q_wipe1, e11, e12, e13, lstAt_some l4, nD_len, c1, c2, c0, q_slr, l4, cut_last c0, newOb, lstAt_some (lst_all l3 _)]
    have hn : tkLev most row.length lv.dropLast = none := by
      rw [hlv] at c0 ⊢
      exact tkLev_cut row (by omega) r1 (by omega) c0
    refine (w21_1 (c + 1) h.length lv.dropLast row.length most _ lst_new (fun x hx => by rw [hlv] at hx; exact levB_lt _ _ x (by rw [List.dropLast_eq_take] at hx; exact List.mem_of_mem_take hx)) (by omega) (by omega) hn).mono ?_ fun _ _ _ z => z.elim
    rintro d h2 ⟨rfl, g⟩
    simp [Dd.we_ret, Dd.we_bnd, Dd.we_lift, Dd.we_var, Dd.we_args_nil, Dd.we_args_cons, Dd.we_opN, Dd.we_op1, Dd.we_op2, Dd.we_call, Dd.we_tst, Dd.we_tru, Dd.we_notT, Dd.we_andT, Dd.we_orT, Dd.we_notV, Dd.we_andV, Dd.we_orV, Dd.we_ite, Dd.we_chn, Dd.we_mth, Dd.we_slice, Dd.we_intOf, Dd.nx_next, Dd.nx_ret, Dd.nx_ex, Dd.td_next, Dd.td_cont, Dd.td_brk, Dd.td_ret, Dd.td_ex, Dd.nx_brk, Dd.nx_cont, Dd.wp_skip, Dd.wp_seq, Dd.wp_drop, Dd.wp_ret, Dd.wp_asg, Dd.wp_if, Dd.wp_raise, Dd.wp_set, Dk.wp_aug, Dk.wp_brk, Dk.p_and127, Dk.p_and255, Dk.p_and1, Dk.p_shr8, Dk.p_shr16, Dk.p_shr24, Dk.p_ashr7, Dk.p_ashr8, Dk.p_aadd, Dk.p_asub, Dd.WO, Dk.eq_ss, Dk.ne_ss, Dk.eq_ii, Dk.ne_ii, Dk.isNot_non, Dk.q_add, Dk.q_addt, Dk.q_sub, Dk.q_mod, Dk.q_fdiv, Dk.q_mulr, Dk.q_mull, Dk.q_neg, Dk.q_lt, Dk.q_le, Dk.q_gt, Dk.q_ge, Dk.q_ix0, Dk.q_ix1, Dk.q_ix2, Dk.q_is_t, Dk.q_is_s, Dk.q_is_lt, Dk.q_is_ll, Dk.q_tru, Dk.q_lent, Dk.q_lenr, Dk.q_int, Dk.q_intb, Dk.q_abs, Dk.q_tupr, Dk.q_lstt, Dk.q_lst, Dk.q_tup, Dk.q_oka, Dk.q_oke, Dk.q_okj, Dk.q_app, Dk.q_ext, Dk.q_nm, Dk.q_tp, Dk.q_sa0, Dk.q_sa1, Dk.q_isn, Dk.q_isb, Dk.q_wipe0, Dk.q_wipe1, truD]
    exact fin _ (Grow.trans ⟨_, rfl⟩ g)
theorem u5_ok (c : Nat) (e11 : e[11]? = some (some (.int (most : Int)))) (e12 : e[12]? = some (some (.ref f))) (l3 : lstAt h f = some (nD row)) (hm : most ≤ 70000) (r2 : row.length ≤ 216)
    (fin : ∀ h', Grow h h' → Q .next e h') : WP (u5 (pg.run (c + 4))) e h Q := by
  have zz : Z = 16777216 := rfl
  unfold u5
  by_cases c0 : most = 0
  · have c1 : ¬ (0 : Int) < (most : Int) := by omega
    have c2 : ¬ 0 < most := by omega
    simp [Dd.we_ret, Dd.we_bnd, Dd.we_lift, Dd.we_var, Dd.we_args_nil, Dd.we_args_cons, Dd.we_opN, Dd.we_op1, Dd.we_op2, Dd.we_call, Dd.we_tst, Dd.we_tru, Dd.we_notT, Dd.we_andT, Dd.we_orT, Dd.we_notV, Dd.we_andV, Dd.we_orV, Dd.we_ite, Dd.we_chn, Dd.we_mth, Dd.we_slice, Dd.we_intOf, Dd.nx_next, Dd.nx_ret, Dd.nx_ex, Dd.td_next, Dd.td_cont, Dd.td_brk, Dd.td_ret, Dd.td_ex, Dd.nx_brk, Dd.nx_cont, Dd.wp_skip, Dd.wp_seq, Dd.wp_drop, Dd.wp_ret, Dd.wp_asg, Dd.wp_if, Dd.wp_raise, Dd.wp_set, Dk.wp_aug, Dk.wp_brk, Dk.p_and127, Dk.p_and255, Dk.p_and1, Dk.p_shr8, Dk.p_shr16, Dk.p_shr24, Dk.p_ashr7, Dk.p_ashr8, Dk.p_aadd, Dk.p_asub, Dd.WO, Dk.eq_ss, Dk.ne_ss, Dk.eq_ii, Dk.ne_ii, Dk.isNot_non, Dk.q_add, Dk.q_addt, Dk.q_sub, Dk.q_mod, Dk.q_fdiv, Dk.q_mulr, Dk.q_mull, Dk.q_neg, Dk.q_lt, Dk.q_le, Dk.q_gt, Dk.q_ge, Dk.q_ix0, Dk.q_ix1, Dk.q_ix2, Dk.q_is_t, Dk.q_is_s, Dk.q_is_lt, Dk.q_is_ll, Dk.q_tru, Dk.q_lent, Dk.q_lenr, Dk.q_int, Dk.q_intb, Dk.q_abs, Dk.q_tupr, Dk.q_lstt, Dk.q_lst, Dk.q_tup, Dk.q_oka, Dk.q_oke, Dk.q_okj, Dk.q_app, Dk.q_ext, Dk.q_nm, Dk.q_tp, Dk.q_sa0, Dk.q_sa1, Dk.q_isn, Dk.q_isb, Dk.q_wipe0, Dk.q_wipe1, e11, e12, c1, c2, c0]
    exact fin _ (Grow.refl _)
  · have c1 : (0 : Int) < (most : Int) := by omega
    have c2 : 0 < most := by omega
    have m2 : ∀ h, mulD (.int 2) (.int (row.length : Int)) h = some (.int (2 * (row.length : Int)), h) := fun h => q_mulr _ _ h (by omega) (by omega)
    simp [Dd.we_ret, Dd.we_bnd, Dd.we_lift, Dd.we_var, Dd.we_args_nil, Dd.we_args_cons, Dd.we_opN, Dd.we_op1, Dd.we_op2, Dd.we_call, Dd.we_tst, Dd.we_tru, Dd.we_notT, Dd.we_andT, Dd.we_orT, Dd.we_notV, Dd.we_andV, Dd.we_orV, Dd.we_ite, Dd.we_chn, Dd.we_mth, Dd.we_slice, Dd.we_intOf, Dd.nx_next, Dd.nx_ret, Dd.nx_ex, Dd.td_next, Dd.td_cont, Dd.td_brk, Dd.td_ret, Dd.td_ex, Dd.nx_brk, Dd.nx_cont, Dd.wp_skip, Dd.wp_seq, Dd.wp_drop, Dd.wp_ret, Dd.wp_asg, Dd.wp_if, Dd.wp_raise, Dd.wp_set, Dk.wp_aug, Dk.wp_brk, Dk.p_and127, Dk.p_and255, Dk.p_and1, Dk.p_shr8, Dk.p_shr16, Dk.p_shr24, Dk.p_ashr7, Dk.p_ashr8, Dk.p_aadd, Dk.p_asub, Dd.WO, Dk.eq_ss, Dk.ne_ss, Dk.eq_ii, Dk.ne_ii, Dk.isNot_non, Dk.q_add, Dk.q_addt, Dk.q_sub, Dk.q_mod, Dk.q_fdiv, Dk.q_mulr, Dk.q_mull, Dk.q_neg, Dk.q_lt, Dk.q_le, Dk.q_gt, Dk.q_ge, Dk.q_ix0, Dk.q_ix1, Dk.q_ix2, Dk.q_is_t, Dk.q_is_s, Dk.q_is_lt, Dk.q_is_ll, Dk.q_tru, Dk.q_lent, Dk.q_lenr, Dk.q_int, Dk.q_intb, Dk.q_abs, Dk.q_tupr, Dk.q_lstt, Dk.q_lst, Dk.q_tup, Dk.q_oka, Dk.q_oke, Dk.q_okj, Dk.q_app, Dk.q_ext, Dk.q_nm, Dk.q_tp, Dk.q_sa0, Dk.q_sa1, Dk.q_isn, Dk.q_isb, Dk.q_wipe0, Dk.q_wipe1, e11, e12, lstAt_some l3, nD_len, c1, c2, c0, m2]
    refine (w15i (c + 3) (2 * row.length + 2) _ _ (by omega) (by omega)).mono ?_ fun _ _ _ z => z.elim
    rintro d h2 ⟨p2, rfl, hp2, g2, l2⟩
    have l3 := g2.lst l3
    obtain ⟨nb, hnb⟩ : ∃ nb, nb = numB (2 * row.length + 2) := ⟨_, rfl⟩
    have nl : nb.length ≤ 5 := by rw [hnb]; exact numB_len (k := 4) (by omega)
    rw [← hnb] at l2
    have z1 : nb.length + 1 ≤ Z := by omega
    simp [Dd.we_ret, Dd.we_bnd, Dd.we_lift, Dd.we_var, Dd.we_args_nil, Dd.we_args_cons, Dd.we_opN, Dd.we_op1, Dd.we_op2, Dd.we_call, Dd.we_tst, Dd.we_tru, Dd.we_notT, Dd.we_andT, Dd.we_orT, Dd.we_notV, Dd.we_andV, Dd.we_orV, Dd.we_ite, Dd.we_chn, Dd.we_mth, Dd.we_slice, Dd.we_intOf, Dd.nx_next, Dd.nx_ret, Dd.nx_ex, Dd.td_next, Dd.td_cont, Dd.td_brk, Dd.td_ret, Dd.td_ex, Dd.nx_brk, Dd.nx_cont, Dd.wp_skip, Dd.wp_seq, Dd.wp_drop, Dd.wp_ret, Dd.wp_asg, Dd.wp_if, Dd.wp_raise, Dd.wp_set, Dk.wp_aug, Dk.wp_brk, Dk.p_and127, Dk.p_and255, Dk.p_and1, Dk.p_shr8, Dk.p_shr16, Dk.p_shr24, Dk.p_ashr7, Dk.p_ashr8, Dk.p_aadd, Dk.p_asub, Dd.WO, Dk.eq_ss, Dk.ne_ss, Dk.eq_ii, Dk.ne_ii, Dk.isNot_non, Dk.q_add, Dk.q_addt, Dk.q_sub, Dk.q_mod, Dk.q_fdiv, Dk.q_mulr, Dk.q_mull, Dk.q_neg, Dk.q_lt, Dk.q_le, Dk.q_gt, Dk.q_ge, Dk.q_ix0, Dk.q_ix1, Dk.q_ix2, Dk.q_is_t, Dk.q_is_s, Dk.q_is_lt, Dk.q_is_ll, Dk.q_tru, Dk.q_lent, Dk.q_lenr, Dk.q_int, Dk.q_intb, Dk.q_abs, Dk.q_tupr, Dk.q_lstt, Dk.q_lst, Dk.q_tup, Dk.q_oka, Dk.q_oke, Dk.q_okj, Dk.q_app, Dk.q_ext, Dk.q_nm, Dk.q_tp, Dk.q_sa0, Dk.q_sa1, Dk.q_isn, Dk.q_isb, Dk.q_wipe0, Dk.q_wipe1, e11, e12, newOb, q_addr, lst_appk, lst_appz, lst_c0, lst_c1, lst_c2, lst_c3, lst_all l2, z1, nD_len, lstAt_some (lst_all l3 _)]
    have l6 : lstAt (h2 ++ [Ob.lst [D.int 0], Ob.lst (nD nb ++ [D.int 0])]) (h2.length + 1) = some (nD (nb ++ [0])) := by rw [lst_appk, lst_c1, nD_app]; rfl
    have bl : ∀ x ∈ nb ++ [0], x < 256 := by
      intro x hx
      rcases List.mem_append.mp hx with hx | hx
      · rw [hnb] at hx; exact numB_lt256 _ x hx
      · rw [List.mem_singleton.mp hx]; decide
    have g3 : Grow h2 (h2 ++ [Ob.lst [D.int 0], Ob.lst (nD nb ++ [D.int 0])]) := ⟨_, rfl⟩
    by_cases c3 : row.length = 0
    · have hn : tkLev most row.length (nb ++ [0]) ≠ none := by
        unfold tkLev
        rw [c3]
        split
        · intro z; cases z
        · rw [tkL, if_pos rfl]; intro z; cases z
      refine (w21_1f (c + 1) _ _ row.length most _ l6 bl (by omega) (by omega) hn).mono ?_ fun _ _ _ z => z.elim
      rintro d h4 ⟨rfl, g⟩
      have c4 : ¬ (0 : Int) < (row.length : Int) := by omega
      have c5 : ¬ 0 < row.length := by omega
      simp [Dd.we_ret, Dd.we_bnd, Dd.we_lift, Dd.we_var, Dd.we_args_nil, Dd.we_args_cons, Dd.we_opN, Dd.we_op1, Dd.we_op2, Dd.we_call, Dd.we_tst, Dd.we_tru, Dd.we_notT, Dd.we_andT, Dd.we_orT, Dd.we_notV, Dd.we_andV, Dd.we_orV, Dd.we_ite, Dd.we_chn, Dd.we_mth, Dd.we_slice, Dd.we_intOf, Dd.nx_next, Dd.nx_ret, Dd.nx_ex, Dd.td_next, Dd.td_cont, Dd.td_brk, Dd.td_ret, Dd.td_ex, Dd.nx_brk, Dd.nx_cont, Dd.wp_skip, Dd.wp_seq, Dd.wp_drop, Dd.wp_ret, Dd.wp_asg, Dd.wp_if, Dd.wp_raise, Dd.wp_set, Dk.wp_aug, Dk.wp_brk, Dk.p_and127, Dk.p_and255, Dk.p_and1, Dk.p_shr8, Dk.p_shr16, Dk.p_shr24, Dk.p_ashr7, Dk.p_ashr8, Dk.p_aadd, Dk.p_asub, Dd.WO, Dk.eq_ss, Dk.ne_ss, Dk.eq_ii, Dk.ne_ii, Dk.isNot_non, Dk.q_add, Dk.q_addt, Dk.q_sub, Dk.q_mod, Dk.q_fdiv, Dk.q_mulr, Dk.q_mull, Dk.q_neg, Dk.q_lt, Dk.q_le, Dk.q_gt, Dk.q_ge, Dk.q_ix0, Dk.q_ix1, Dk.q_ix2, Dk.q_is_t, Dk.q_is_s, Dk.q_is_lt, Dk.q_is_ll, Dk.q_tru, Dk.q_lent, Dk.q_lenr, Dk.q_int, Dk.q_intb, Dk.q_abs, Dk.q_tupr, Dk.q_lstt, Dk.q_lst, Dk.q_tup, Dk.q_oka, Dk.q_oke, Dk.q_okj, Dk.q_app, Dk.q_ext, Dk.q_nm, Dk.q_tp, Dk.q_sa0, Dk.q_sa1, Dk.q_isn, Dk.q_isb, Dk.q_wipe0, Dk.q_wipe1, e11, e12, truD, lstAt_some (g.lst (g3.lst l3)), nD_len, c4, c5, c3]
      exact fin _ (g2.trans (g3.trans g))
    · have hn : tkLev most row.length (nb ++ [0]) = none := by
        unfold tkLev
        rw [if_neg, hnb]
        · exact tkL_more (n := 1000) (by omega) (by decide) c3
        · unfold bitsN
          rw [if_neg c0]; omega
      refine (w21_1 (c + 1) _ _ row.length most _ l6 bl (by omega) (by omega) hn).mono ?_ fun _ _ _ z => z.elim
      rintro d h4 ⟨rfl, g⟩
      simp [Dd.we_ret, Dd.we_bnd, Dd.we_lift, Dd.we_var, Dd.we_args_nil, Dd.we_args_cons, Dd.we_opN, Dd.we_op1, Dd.we_op2, Dd.we_call, Dd.we_tst, Dd.we_tru, Dd.we_notT, Dd.we_andT, Dd.we_orT, Dd.we_notV, Dd.we_andV, Dd.we_orV, Dd.we_ite, Dd.we_chn, Dd.we_mth, Dd.we_slice, Dd.we_intOf, Dd.nx_next, Dd.nx_ret, Dd.nx_ex, Dd.td_next, Dd.td_cont, Dd.td_brk, Dd.td_ret, Dd.td_ex, Dd.nx_brk, Dd.nx_cont, Dd.wp_skip, Dd.wp_seq, Dd.wp_drop, Dd.wp_ret, Dd.wp_asg, Dd.wp_if, Dd.wp_raise, Dd.wp_set, Dk.wp_aug, Dk.wp_brk, Dk.p_and127, Dk.p_and255, Dk.p_and1, Dk.p_shr8, Dk.p_shr16, Dk.p_shr24, Dk.p_ashr7, Dk.p_ashr8, Dk.p_aadd, Dk.p_asub, Dd.WO, Dk.eq_ss, Dk.ne_ss, Dk.eq_ii, Dk.ne_ii, Dk.isNot_non, Dk.q_add, Dk.q_addt, Dk.q_sub, Dk.q_mod, Dk.q_fdiv, Dk.q_mulr, Dk.q_mull, Dk.q_neg, Dk.q_lt, Dk.q_le, Dk.q_gt, Dk.q_ge, Dk.q_ix0, Dk.q_ix1, Dk.q_ix2, Dk.q_is_t, Dk.q_is_s, Dk.q_is_lt, Dk.q_is_ll, Dk.q_tru, Dk.q_lent, Dk.q_lenr, Dk.q_int, Dk.q_intb, Dk.q_abs, Dk.q_tupr, Dk.q_lstt, Dk.q_lst, Dk.q_tup, Dk.q_oka, Dk.q_oke, Dk.q_okj, Dk.q_app, Dk.q_ext, Dk.q_nm, Dk.q_tp, Dk.q_sa0, Dk.q_sa1, Dk.q_isn, Dk.q_isb, Dk.q_wipe0, Dk.q_wipe1, e11, e12, truD]
      exact fin _ (g2.trans (g3.trans g))
end
def I20L (ns : List Int) (most : Nat) (k : Nat) (e : DE) (_ : DH) : Prop := ∃ x1 x2 x3 x4 x5 x6 x7 x8 x9 x10 x12 x13 x14 : Option D, e = [some (.frz ns), x1, x2, x3, x4, x5, x6, x7, x8, x9, x10, some (.int (most : Int)), x12, x13, x14]
theorem R20 (c : Nat) (ns : List Int) (most : Nat) (hm : most ≤ 70000) (hl : ns.length ≤ 63) (h : DH) (x1 x2 x3 x4 x5 x6 x7 x8 x9 x10 x12 x13 x14 : Option D) : WP (tR20 (pg.run (c + 4))) [some (.frz ns), x1, x2, x3, x4, x5, x6, x7, x8, x9, x10, some (.int (most : Int)), x12, x13, x14] h LawQ := by
  have zz : Z = 16777216 := rfl
  unfold tR20
  rw [wp_seq, t20_eq]
  have qf : ∀ h, bltD .len [.frz ns] h = some (.int (ns.length : Int), h) := fun h => rfl
  obtain ⟨hi, hhi⟩ : ∃ hi : Int, hi = if (10 : Int) < (ns.length : Int) then 10 else (ns.length : Int) := ⟨_, rfl⟩
  have mn : ∀ h, bltD .min [.int (ns.length : Int), .int 10] h = some (.int hi, h) := fun h => by rw [hhi]; rfl
  refine for_rng2S 5 (min ns.length 10 - 5) hi (I20L ns most) ?_ ?_ (by rw [hhi]; split <;> omega) (by decide) (by omega) (by rw [hhi]; split <;> omega) ⟨_, _, _, _, _, _, _, _, _, _, _, _, _, rfl⟩ ?_ ?_
  · simp [Dd.we_ret, Dd.we_bnd, Dd.we_lift, Dd.we_var, Dd.we_args_nil, Dd.we_args_cons, Dd.we_opN, Dd.we_op1, Dd.we_op2, Dd.we_call, Dd.we_tst, Dd.we_tru, Dd.we_notT, Dd.we_andT, Dd.we_orT, Dd.we_notV, Dd.we_andV, Dd.we_orV, Dd.we_ite, Dd.we_chn, Dd.we_mth, Dd.we_slice, Dd.we_intOf, Dd.nx_next, Dd.nx_ret, Dd.nx_ex, Dd.td_next, Dd.td_cont, Dd.td_brk, Dd.td_ret, Dd.td_ex, Dd.nx_brk, Dd.nx_cont, Dd.wp_skip, Dd.wp_seq, Dd.wp_drop, Dd.wp_ret, Dd.wp_asg, Dd.wp_if, Dd.wp_raise, Dd.wp_set, Dk.wp_aug, Dk.wp_brk, Dk.p_and127, Dk.p_and255, Dk.p_and1, Dk.p_shr8, Dk.p_shr16, Dk.p_shr24, Dk.p_ashr7, Dk.p_ashr8, Dk.p_aadd, Dk.p_asub, Dd.WO, Dk.eq_ss, Dk.ne_ss, Dk.eq_ii, Dk.ne_ii, Dk.isNot_non, Dk.q_add, Dk.q_addt, Dk.q_sub, Dk.q_mod, Dk.q_fdiv, Dk.q_mulr, Dk.q_mull, Dk.q_neg, Dk.q_lt, Dk.q_le, Dk.q_gt, Dk.q_ge, Dk.q_ix0, Dk.q_ix1, Dk.q_ix2, Dk.q_is_t, Dk.q_is_s, Dk.q_is_lt, Dk.q_is_ll, Dk.q_tru, Dk.q_lent, Dk.q_lenr, Dk.q_int, Dk.q_intb, Dk.q_abs, Dk.q_tupr, Dk.q_lstt, Dk.q_lst, Dk.q_tup, Dk.q_oka, Dk.q_oke, Dk.q_okj, Dk.q_app, Dk.q_ext, Dk.q_nm, Dk.q_tp, Dk.q_sa0, Dk.q_sa1, Dk.q_isn, Dk.q_isb, Dk.q_wipe0, Dk.q_wipe1]
  · simp [Dd.we_ret, Dd.we_bnd, Dd.we_lift, Dd.we_var, Dd.we_args_nil, Dd.we_args_cons, Dd.we_opN, Dd.we_op1, Dd.we_op2, Dd.we_call, Dd.we_tst, Dd.we_tru, Dd.we_notT, Dd.we_andT, Dd.we_orT, Dd.we_notV, Dd.we_andV, Dd.we_orV, Dd.we_ite, Dd.we_chn, Dd.we_mth, Dd.we_slice, Dd.we_intOf, Dd.nx_next, Dd.nx_ret, Dd.nx_ex, Dd.td_next, Dd.td_cont, Dd.td_brk, Dd.td_ret, Dd.td_ex, Dd.nx_brk, Dd.nx_cont, Dd.wp_skip, Dd.wp_seq, Dd.wp_drop, Dd.wp_ret, Dd.wp_asg, Dd.wp_if, Dd.wp_raise, Dd.wp_set, Dk.wp_aug, Dk.wp_brk, Dk.p_and127, Dk.p_and255, Dk.p_and1, Dk.p_shr8, Dk.p_shr16, Dk.p_shr24, Dk.p_ashr7, Dk.p_ashr8, Dk.p_aadd, Dk.p_asub, Dd.WO, Dk.eq_ss, Dk.ne_ss, Dk.eq_ii, Dk.ne_ii, Dk.isNot_non, Dk.q_add, Dk.q_addt, Dk.q_sub, Dk.q_mod, Dk.q_fdiv, Dk.q_mulr, Dk.q_mull, Dk.q_neg, Dk.q_lt, Dk.q_le, Dk.q_gt, Dk.q_ge, Dk.q_ix0, Dk.q_ix1, Dk.q_ix2, Dk.q_is_t, Dk.q_is_s, Dk.q_is_lt, Dk.q_is_ll, Dk.q_tru, Dk.q_lent, Dk.q_lenr, Dk.q_int, Dk.q_intb, Dk.q_abs, Dk.q_tupr, Dk.q_lstt, Dk.q_lst, Dk.q_tup, Dk.q_oka, Dk.q_oke, Dk.q_okj, Dk.q_app, Dk.q_ext, Dk.q_nm, Dk.q_tp, Dk.q_sa0, Dk.q_sa1, Dk.q_isn, Dk.q_isb, Dk.q_wipe0, Dk.q_wipe1, qf, mn]
  · rintro e hh -
    exact nx_next.mpr (R21 c e hh)
  · rintro k e hh hk ⟨x1, x2, x3, x4, x5, x6, x7, x8, x9, x10, x12, x13, x14, rfl⟩
    refine ⟨_, rfl, ?_⟩
    unfold u1 u2
    simp [Dd.we_ret, Dd.we_bnd, Dd.we_lift, Dd.we_var, Dd.we_args_nil, Dd.we_args_cons, Dd.we_opN, Dd.we_op1, Dd.we_op2, Dd.we_call, Dd.we_tst, Dd.we_tru, Dd.we_notT, Dd.we_andT, Dd.we_orT, Dd.we_notV, Dd.we_andV, Dd.we_orV, Dd.we_ite, Dd.we_chn, Dd.we_mth, Dd.we_slice, Dd.we_intOf, Dd.nx_next, Dd.nx_ret, Dd.nx_ex, Dd.td_next, Dd.td_cont, Dd.td_brk, Dd.td_ret, Dd.td_ex, Dd.nx_brk, Dd.nx_cont, Dd.wp_skip, Dd.wp_seq, Dd.wp_drop, Dd.wp_ret, Dd.wp_asg, Dd.wp_if, Dd.wp_raise, Dd.wp_set, Dk.wp_aug, Dk.wp_brk, Dk.p_and127, Dk.p_and255, Dk.p_and1, Dk.p_shr8, Dk.p_shr16, Dk.p_shr24, Dk.p_ashr7, Dk.p_ashr8, Dk.p_aadd, Dk.p_asub, Dd.WO, Dk.eq_ss, Dk.ne_ss, Dk.eq_ii, Dk.ne_ii, Dk.isNot_non, Dk.q_add, Dk.q_addt, Dk.q_sub, Dk.q_mod, Dk.q_fdiv, Dk.q_mulr, Dk.q_mull, Dk.q_neg, Dk.q_lt, Dk.q_le, Dk.q_gt, Dk.q_ge, Dk.q_ix0, Dk.q_ix1, Dk.q_ix2, Dk.q_is_t, Dk.q_is_s, Dk.q_is_lt, Dk.q_is_ll, Dk.q_tru, Dk.q_lent, Dk.q_lenr, Dk.q_int, Dk.q_intb, Dk.q_abs, Dk.q_tupr, Dk.q_lstt, Dk.q_lst, Dk.q_tup, Dk.q_oka, Dk.q_oke, Dk.q_okj, Dk.q_app, Dk.q_ext, Dk.q_nm, Dk.q_tp, Dk.q_sa0, Dk.q_sa1, Dk.q_isn, Dk.q_isb, Dk.q_wipe0, Dk.q_wipe1]
    refine (w13i (c + 3) ns (5 + k) hh _ (by omega)).mono ?_ fun _ _ _ z => z.elim
    rintro d h2 ⟨rfl, rfl⟩
    refine (w22 (c + 2) _ most h2 (by omega)).mono ?_ fun _ _ _ z => z.elim
    rintro d h3 ⟨f, row, rfl, hf, g3, l3, r1, r2⟩
    refine (w20 (c + 2) f most row h3 l3 r1 (by omega) (by omega)).mono ?_ fun _ _ _ z => z.elim
    rintro d h4 ⟨p, rfl, hp, g4, l4⟩
    have l3 := g4.lst l3
    obtain ⟨lv, hlv⟩ : ∃ lv, lv = levB most row := ⟨_, rfl⟩
    rw [← hlv] at l4
    have lvl : lv.length ≤ 4000 := by
      rw [hlv]; unfold levB
      split
      · exact Nat.zero_le _
      · have := lawL_len (w := bitsN most) (Nat.le_trans (bits_le (k := 35) (by omega)) (by decide)) _ row (Nat.le_refl _) (by omega) fun x m => by have := r1 x m; omega
        omega
    try simp [Dd.we_ret, Dd.we_bnd, Dd.we_lift, Dd.we_var, Dd.we_args_nil, Dd.we_args_cons, Dd.we_opN, Dd.we_op1, Dd.we_op2, Dd.we_call, Dd.we_tst, Dd.we_tru, Dd.we_notT, Dd.we_andT, Dd.we_orT, Dd.we_notV, Dd.we_andV, Dd.we_orV, Dd.we_ite, Dd.we_chn, Dd.we_mth, Dd.we_slice, Dd.we_intOf, Dd.nx_next, Dd.nx_ret, Dd.nx_ex, Dd.td_next, Dd.td_cont, Dd.td_brk, Dd.td_ret, Dd.td_ex, Dd.nx_brk, Dd.nx_cont, Dd.wp_skip, Dd.wp_seq, Dd.wp_drop, Dd.wp_ret, Dd.wp_asg, Dd.wp_if, Dd.wp_raise, Dd.wp_set, Dk.wp_aug, Dk.wp_brk, Dk.p_and127, Dk.p_and255, Dk.p_and1, Dk.p_shr8, Dk.p_shr16, Dk.p_shr24, Dk.p_ashr7, Dk.p_ashr8, Dk.p_aadd, Dk.p_asub, Dd.WO, Dk.eq_ss, Dk.ne_ss, Dk.eq_ii, Dk.ne_ii, Dk.isNot_non, Dk.q_add, Dk.q_addt, Dk.q_sub, Dk.q_mod, Dk.q_fdiv, Dk.q_mulr, Dk.q_mull, Dk.q_neg, Dk.q_lt, Dk.q_le, Dk.q_gt, Dk.q_ge, Dk.q_ix0, Dk.q_ix1, Dk.q_ix2, Dk.q_is_t, Dk.q_is_s, Dk.q_is_lt, Dk.q_is_ll, Dk.q_tru, Dk.q_lent, Dk.q_lenr, Dk.q_int, Dk.q_intb, Dk.q_abs, Dk.q_tupr, Dk.q_lstt, Dk.q_lst, Dk.q_tup, Dk.q_oka, Dk.q_oke, Dk.q_okj, Dk.q_app, Dk.q_ext, Dk.q_nm, Dk.q_tp, Dk.q_sa0, Dk.q_sa1, Dk.q_isn, Dk.q_isb, Dk.q_wipe0, Dk.q_wipe1]
    refine u3_ok c rfl rfl rfl l3 l4 hm r1 r2 hlv lvl fun h5 g5 => ?_
    try simp [Dd.we_ret, Dd.we_bnd, Dd.we_lift, Dd.we_var, Dd.we_args_nil, Dd.we_args_cons, Dd.we_opN, Dd.we_op1, Dd.we_op2, Dd.we_call, Dd.we_tst, Dd.we_tru, Dd.we_notT, Dd.we_andT, Dd.we_orT, Dd.we_notV, Dd.we_andV, Dd.we_orV, Dd.we_ite, Dd.we_chn, Dd.we_mth, Dd.we_slice, Dd.we_intOf, Dd.nx_next, Dd.nx_ret, Dd.nx_ex, Dd.td_next, Dd.td_cont, Dd.td_brk, Dd.td_ret, Dd.td_ex, Dd.nx_brk, Dd.nx_cont, Dd.wp_skip, Dd.wp_seq, Dd.wp_drop, Dd.wp_ret, Dd.wp_asg, Dd.wp_if, Dd.wp_raise, Dd.wp_set, Dk.wp_aug, Dk.wp_brk, Dk.p_and127, Dk.p_and255, Dk.p_and1, Dk.p_shr8, Dk.p_shr16, Dk.p_shr24, Dk.p_ashr7, Dk.p_ashr8, Dk.p_aadd, Dk.p_asub, Dd.WO, Dk.eq_ss, Dk.ne_ss, Dk.eq_ii, Dk.ne_ii, Dk.isNot_non, Dk.q_add, Dk.q_addt, Dk.q_sub, Dk.q_mod, Dk.q_fdiv, Dk.q_mulr, Dk.q_mull, Dk.q_neg, Dk.q_lt, Dk.q_le, Dk.q_gt, Dk.q_ge, Dk.q_ix0, Dk.q_ix1, Dk.q_ix2, Dk.q_is_t, Dk.q_is_s, Dk.q_is_lt, Dk.q_is_ll, Dk.q_tru, Dk.q_lent, Dk.q_lenr, Dk.q_int, Dk.q_intb, Dk.q_abs, Dk.q_tupr, Dk.q_lstt, Dk.q_lst, Dk.q_tup, Dk.q_oka, Dk.q_oke, Dk.q_okj, Dk.q_app, Dk.q_ext, Dk.q_nm, Dk.q_tp, Dk.q_sa0, Dk.q_sa1, Dk.q_isn, Dk.q_isb, Dk.q_wipe0, Dk.q_wipe1]
    refine u4_ok c rfl rfl rfl (g5.lst l3) (g5.lst l4) hm r1 r2 hlv fun h6 g6 => ?_
    try simp [Dd.we_ret, Dd.we_bnd, Dd.we_lift, Dd.we_var, Dd.we_args_nil, Dd.we_args_cons, Dd.we_opN, Dd.we_op1, Dd.we_op2, Dd.we_call, Dd.we_tst, Dd.we_tru, Dd.we_notT, Dd.we_andT, Dd.we_orT, Dd.we_notV, Dd.we_andV, Dd.we_orV, Dd.we_ite, Dd.we_chn, Dd.we_mth, Dd.we_slice, Dd.we_intOf, Dd.nx_next, Dd.nx_ret, Dd.nx_ex, Dd.td_next, Dd.td_cont, Dd.td_brk, Dd.td_ret, Dd.td_ex, Dd.nx_brk, Dd.nx_cont, Dd.wp_skip, Dd.wp_seq, Dd.wp_drop, Dd.wp_ret, Dd.wp_asg, Dd.wp_if, Dd.wp_raise, Dd.wp_set, Dk.wp_aug, Dk.wp_brk, Dk.p_and127, Dk.p_and255, Dk.p_and1, Dk.p_shr8, Dk.p_shr16, Dk.p_shr24, Dk.p_ashr7, Dk.p_ashr8, Dk.p_aadd, Dk.p_asub, Dd.WO, Dk.eq_ss, Dk.ne_ss, Dk.eq_ii, Dk.ne_ii, Dk.isNot_non, Dk.q_add, Dk.q_addt, Dk.q_sub, Dk.q_mod, Dk.q_fdiv, Dk.q_mulr, Dk.q_mull, Dk.q_neg, Dk.q_lt, Dk.q_le, Dk.q_gt, Dk.q_ge, Dk.q_ix0, Dk.q_ix1, Dk.q_ix2, Dk.q_is_t, Dk.q_is_s, Dk.q_is_lt, Dk.q_is_ll, Dk.q_tru, Dk.q_lent, Dk.q_lenr, Dk.q_int, Dk.q_intb, Dk.q_abs, Dk.q_tupr, Dk.q_lstt, Dk.q_lst, Dk.q_tup, Dk.q_oka, Dk.q_oke, Dk.q_okj, Dk.q_app, Dk.q_ext, Dk.q_nm, Dk.q_tp, Dk.q_sa0, Dk.q_sa1, Dk.q_isn, Dk.q_isb, Dk.q_wipe0, Dk.q_wipe1]
    refine u5_ok c rfl rfl ((g5.trans g6).lst l3) hm r2 fun h7 g7 => ?_
    try simp [Dd.we_ret, Dd.we_bnd, Dd.we_lift, Dd.we_var, Dd.we_args_nil, Dd.we_args_cons, Dd.we_opN, Dd.we_op1, Dd.we_op2, Dd.we_call, Dd.we_tst, Dd.we_tru, Dd.we_notT, Dd.we_andT, Dd.we_orT, Dd.we_notV, Dd.we_andV, Dd.we_orV, Dd.we_ite, Dd.we_chn, Dd.we_mth, Dd.we_slice, Dd.we_intOf, Dd.nx_next, Dd.nx_ret, Dd.nx_ex, Dd.td_next, Dd.td_cont, Dd.td_brk, Dd.td_ret, Dd.td_ex, Dd.nx_brk, Dd.nx_cont, Dd.wp_skip, Dd.wp_seq, Dd.wp_drop, Dd.wp_ret, Dd.wp_asg, Dd.wp_if, Dd.wp_raise, Dd.wp_set, Dk.wp_aug, Dk.wp_brk, Dk.p_and127, Dk.p_and255, Dk.p_and1, Dk.p_shr8, Dk.p_shr16, Dk.p_shr24, Dk.p_ashr7, Dk.p_ashr8, Dk.p_aadd, Dk.p_asub, Dd.WO, Dk.eq_ss, Dk.ne_ss, Dk.eq_ii, Dk.ne_ii, Dk.isNot_non, Dk.q_add, Dk.q_addt, Dk.q_sub, Dk.q_mod, Dk.q_fdiv, Dk.q_mulr, Dk.q_mull, Dk.q_neg, Dk.q_lt, Dk.q_le, Dk.q_gt, Dk.q_ge, Dk.q_ix0, Dk.q_ix1, Dk.q_ix2, Dk.q_is_t, Dk.q_is_s, Dk.q_is_lt, Dk.q_is_ll, Dk.q_tru, Dk.q_lent, Dk.q_lenr, Dk.q_int, Dk.q_intb, Dk.q_abs, Dk.q_tupr, Dk.q_lstt, Dk.q_lst, Dk.q_tup, Dk.q_oka, Dk.q_oke, Dk.q_okj, Dk.q_app, Dk.q_ext, Dk.q_nm, Dk.q_tp, Dk.q_sa0, Dk.q_sa1, Dk.q_isn, Dk.q_isb, Dk.q_wipe0, Dk.q_wipe1]
    exact ⟨_, _, _, _, _, _, _, _, _, _, _, _, _, rfl⟩
end Dk

set_option Elab.async false
set_option linter.all false
set_option maxRecDepth 100000
set_option maxHeartbeats 4000000
namespace Dk
open PySem PySem.Spec PyProof.Rows L2 Dd

section
variable {e : DE} {h : DH} {Q : Fl → DE → DH → Prop} {f p w : Nat} {xs : List Nat}
theorem abs_eq (i : Int) : (if i < 0 then -i else i) = (i.natAbs : Int) := by split <;> omega
theorem t19_ok (c : Nat) (ns : List Int) (e0 : e[0]? = some (some (.frz ns))) (fin : ∀ (m : Nat) h', m ≤ 70000 → Grow h h' → Q .next (e.set 11 (some (.int (m : Int)))) h') : WP (t19 (pg.run (c + 4))) e h Q := by
  unfold t19
  have zz : Z = 16777216 := rfl
  simp [Dd.we_ret, Dd.we_bnd, Dd.we_lift, Dd.we_var, Dd.we_args_nil, Dd.we_args_cons, Dd.we_opN, Dd.we_op1, Dd.we_op2, Dd.we_call, Dd.we_tst, Dd.we_tru, Dd.we_notT, Dd.we_andT, Dd.we_orT, Dd.we_notV, Dd.we_andV, Dd.we_orV, Dd.we_ite, Dd.we_chn, Dd.we_mth, Dd.we_slice, Dd.we_intOf, Dd.nx_next, Dd.nx_ret, Dd.nx_ex, Dd.td_next, Dd.td_cont, Dd.td_brk, Dd.td_ret, Dd.td_ex, Dd.nx_brk, Dd.nx_cont, Dd.wp_skip, Dd.wp_seq, Dd.wp_drop, Dd.wp_ret, Dd.wp_asg, Dd.wp_if, Dd.wp_raise, Dd.wp_set, Dk.wp_aug, Dk.wp_brk, Dk.p_and127, Dk.p_and255, Dk.p_and1, Dk.p_shr8, Dk.p_shr16, Dk.p_shr24, Dk.p_ashr7, Dk.p_ashr8, Dk.p_aadd, Dk.p_asub, Dd.WO, Dk.eq_ss, Dk.ne_ss, Dk.eq_ii, Dk.ne_ii, Dk.isNot_non, Dk.q_add, Dk.q_addt, Dk.q_sub, Dk.q_mod, Dk.q_fdiv, Dk.q_mulr, Dk.q_mull, Dk.q_neg, Dk.q_lt, Dk.q_le, Dk.q_gt, Dk.q_ge, Dk.q_ix0, Dk.q_ix1, Dk.q_ix2, Dk.q_is_t, Dk.q_is_s, Dk.q_is_lt, Dk.q_is_ll, Dk.q_tru, Dk.q_lent, Dk.q_lenr, Dk.q_int, Dk.q_intb, Dk.q_abs, Dk.q_tupr, Dk.q_lstt, Dk.q_lst, Dk.q_tup, Dk.q_oka, Dk.q_oke, Dk.q_okj, Dk.q_app, Dk.q_ext, Dk.q_nm, Dk.q_tp, Dk.q_sa0, Dk.q_sa1, Dk.q_isn, Dk.q_isb, Dk.q_wipe0, Dk.q_wipe1, e0, newOb]
  refine (w13i (c + 3) ns 4 _ _ rfl).mono ?_ fun _ _ _ z => z.elim
  rintro d h2 ⟨rfl, rfl⟩
  obtain ⟨a, ha⟩ : ∃ a, a = (cellN ns 4).natAbs := ⟨_, rfl⟩
  have hx : (nD [0, 1, 2, 3, 7, 300, 70000]) = [.int 0, .int 1, .int 2, .int 3, .int 7, .int 300, .int 70000] := rfl
  have hk : a % 7 < [0, 1, 2, 3, 7, 300, 70000].length := Nat.mod_lt _ (by decide)
  have ix : L2.atI [D.int 0, .int 1, .int 2, .int 3, .int 7, .int 300, .int 70000] ((a : Int) % 7) = some (.int ([0, 1, 2, 3, 7, 300, 70000][a % 7] : Nat)) := by
    rw [← hx, nD_at (k := a % 7) (by omega) hk]
  obtain ⟨m, hm⟩ : ∃ m, m = [0, 1, 2, 3, 7, 300, 70000][a % 7] := ⟨_, rfl⟩
  have hm2 : m ≤ 70000 := by
    have : ∀ j (hj : j < [0, 1, 2, 3, 7, 300, 70000].length), [0, 1, 2, 3, 7, 300, 70000][j] ≤ 70000 := by decide
    rw [hm]; exact this _ hk
  rw [← hm] at ix
  simp [Dd.we_ret, Dd.we_bnd, Dd.we_lift, Dd.we_var, Dd.we_args_nil, Dd.we_args_cons, Dd.we_opN, Dd.we_op1, Dd.we_op2, Dd.we_call, Dd.we_tst, Dd.we_tru, Dd.we_notT, Dd.we_andT, Dd.we_orT, Dd.we_notV, Dd.we_andV, Dd.we_orV, Dd.we_ite, Dd.we_chn, Dd.we_mth, Dd.we_slice, Dd.we_intOf, Dd.nx_next, Dd.nx_ret, Dd.nx_ex, Dd.td_next, Dd.td_cont, Dd.td_brk, Dd.td_ret, Dd.td_ex, Dd.nx_brk, Dd.nx_cont, Dd.wp_skip, Dd.wp_seq, Dd.wp_drop, Dd.wp_ret, Dd.wp_asg, Dd.wp_if, Dd.wp_raise, Dd.wp_set, Dk.wp_aug, Dk.wp_brk, Dk.p_and127, Dk.p_and255, Dk.p_and1, Dk.p_shr8, Dk.p_shr16, Dk.p_shr24, Dk.p_ashr7, Dk.p_ashr8, Dk.p_aadd, Dk.p_asub, Dd.WO, Dk.eq_ss, Dk.ne_ss, Dk.eq_ii, Dk.ne_ii, Dk.isNot_non, Dk.q_add, Dk.q_addt, Dk.q_sub, Dk.q_mod, Dk.q_fdiv, Dk.q_mulr, Dk.q_mull, Dk.q_neg, Dk.q_lt, Dk.q_le, Dk.q_gt, Dk.q_ge, Dk.q_ix0, Dk.q_ix1, Dk.q_ix2, Dk.q_is_t, Dk.q_is_s, Dk.q_is_lt, Dk.q_is_ll, Dk.q_tru, Dk.q_lent, Dk.q_lenr, Dk.q_int, Dk.q_intb, Dk.q_abs, Dk.q_tupr, Dk.q_lstt, Dk.q_lst, Dk.q_tup, Dk.q_oka, Dk.q_oke, Dk.q_okj, Dk.q_app, Dk.q_ext, Dk.q_nm, Dk.q_tp, Dk.q_sa0, Dk.q_sa1, Dk.q_isn, Dk.q_isb, Dk.q_wipe0, Dk.q_wipe1, abs_eq, ← ha, q_ixr, ix, Dd.pureO]
  exact fin m _ hm2 ⟨_, rfl⟩
theorem bits_pow : ∀ w, w < 13 → bitsN (2 ^ w - 1) = w ∧ bitsN (2 ^ w) = w + 1 := by decide
theorem w6i (c n : Nat) (v : Int) (hv : v = (n : Int)) (h : DH) : WC (pg.run (c + 1)) 6 [.int v] h (fun d h' => d = .int (bitsN n : Int) ∧ h' = h) fun _ _ _ => False := by
  rw [hv]; exact w6 c n h
theorem t15_ok (c : Nat) (e6 : e[6]? = some (some (.int (w : Int)))) (e7 : e[7]? = some (some (.int ((2 ^ w : Nat) : Int)))) (e9 : e[9]? = some (some (.ref f))) (e10 : e[10]? = some (some (.ref p))) (l1 : lstAt h f = some (nD xs)) (l2 : lstAt h p = some (nD (packB w xs))) (hw : w < 13) (hx : ∀ x ∈ xs, x < 2 ^ w) (xl : xs.length ≤ 17)
    (fin : ∀ h', Grow h h' → Q .next e h') : WP (t15 (pg.run (c + 4))) e h Q := by
  unfold t15
  have zz : Z = 16777216 := rfl
  obtain ⟨s, hs⟩ : ∃ s, s = 2 ^ w := ⟨_, rfl⟩
  have s0 : 0 < s := by rw [hs]; exact Nat.two_pow_pos _
  obtain ⟨b1, b2⟩ := bits_pow w hw
  rw [← hs] at b1 b2 e7
  simp [Dd.we_ret, Dd.we_bnd, Dd.we_lift, Dd.we_var, Dd.we_args_nil, Dd.we_args_cons, Dd.we_opN, Dd.we_op1, Dd.we_op2, Dd.we_call, Dd.we_tst, Dd.we_tru, Dd.we_notT, Dd.we_andT, Dd.we_orT, Dd.we_notV, Dd.we_andV, Dd.we_orV, Dd.we_ite, Dd.we_chn, Dd.we_mth, Dd.we_slice, Dd.we_intOf, Dd.nx_next, Dd.nx_ret, Dd.nx_ex, Dd.td_next, Dd.td_cont, Dd.td_brk, Dd.td_ret, Dd.td_ex, Dd.nx_brk, Dd.nx_cont, Dd.wp_skip, Dd.wp_seq, Dd.wp_drop, Dd.wp_ret, Dd.wp_asg, Dd.wp_if, Dd.wp_raise, Dd.wp_set, Dk.wp_aug, Dk.wp_brk, Dk.p_and127, Dk.p_and255, Dk.p_and1, Dk.p_shr8, Dk.p_shr16, Dk.p_shr24, Dk.p_ashr7, Dk.p_ashr8, Dk.p_aadd, Dk.p_asub, Dd.WO, Dk.eq_ss, Dk.ne_ss, Dk.eq_ii, Dk.ne_ii, Dk.isNot_non, Dk.q_add, Dk.q_addt, Dk.q_sub, Dk.q_mod, Dk.q_fdiv, Dk.q_mulr, Dk.q_mull, Dk.q_neg, Dk.q_lt, Dk.q_le, Dk.q_gt, Dk.q_ge, Dk.q_ix0, Dk.q_ix1, Dk.q_ix2, Dk.q_is_t, Dk.q_is_s, Dk.q_is_lt, Dk.q_is_ll, Dk.q_tru, Dk.q_lent, Dk.q_lenr, Dk.q_int, Dk.q_intb, Dk.q_abs, Dk.q_tupr, Dk.q_lstt, Dk.q_lst, Dk.q_tup, Dk.q_oka, Dk.q_oke, Dk.q_okj, Dk.q_app, Dk.q_ext, Dk.q_nm, Dk.q_tp, Dk.q_sa0, Dk.q_sa1, Dk.q_isn, Dk.q_isb, Dk.q_wipe0, Dk.q_wipe1, e6, e7, e9, e10]
  refine (w6i (c + 3) (s - 1) _ (by omega) h).mono ?_ fun _ _ _ z => z.elim
  rintro d h2 ⟨rfl, rfl⟩
  simp [Dd.we_ret, Dd.we_bnd, Dd.we_lift, Dd.we_var, Dd.we_args_nil, Dd.we_args_cons, Dd.we_opN, Dd.we_op1, Dd.we_op2, Dd.we_call, Dd.we_tst, Dd.we_tru, Dd.we_notT, Dd.we_andT, Dd.we_orT, Dd.we_notV, Dd.we_andV, Dd.we_orV, Dd.we_ite, Dd.we_chn, Dd.we_mth, Dd.we_slice, Dd.we_intOf, Dd.nx_next, Dd.nx_ret, Dd.nx_ex, Dd.td_next, Dd.td_cont, Dd.td_brk, Dd.td_ret, Dd.td_ex, Dd.nx_brk, Dd.nx_cont, Dd.wp_skip, Dd.wp_seq, Dd.wp_drop, Dd.wp_ret, Dd.wp_asg, Dd.wp_if, Dd.wp_raise, Dd.wp_set, Dk.wp_aug, Dk.wp_brk, Dk.p_and127, Dk.p_and255, Dk.p_and1, Dk.p_shr8, Dk.p_shr16, Dk.p_shr24, Dk.p_ashr7, Dk.p_ashr8, Dk.p_aadd, Dk.p_asub, Dd.WO, Dk.eq_ss, Dk.ne_ss, Dk.eq_ii, Dk.ne_ii, Dk.isNot_non, Dk.q_add, Dk.q_addt, Dk.q_sub, Dk.q_mod, Dk.q_fdiv, Dk.q_mulr, Dk.q_mull, Dk.q_neg, Dk.q_lt, Dk.q_le, Dk.q_gt, Dk.q_ge, Dk.q_ix0, Dk.q_ix1, Dk.q_ix2, Dk.q_is_t, Dk.q_is_s, Dk.q_is_lt, Dk.q_is_ll, Dk.q_tru, Dk.q_lent, Dk.q_lenr, Dk.q_int, Dk.q_intb, Dk.q_abs, Dk.q_tupr, Dk.q_lstt, Dk.q_lst, Dk.q_tup, Dk.q_oka, Dk.q_oke, Dk.q_okj, Dk.q_app, Dk.q_ext, Dk.q_nm, Dk.q_tp, Dk.q_sa0, Dk.q_sa1, Dk.q_isn, Dk.q_isb, Dk.q_wipe0, Dk.q_wipe1, b1]
  refine (w6i (c + 3) s _ rfl _).mono ?_ fun _ _ _ z => z.elim
  rintro d h3 ⟨rfl, rfl⟩
  simp [Dd.we_ret, Dd.we_bnd, Dd.we_lift, Dd.we_var, Dd.we_args_nil, Dd.we_args_cons, Dd.we_opN, Dd.we_op1, Dd.we_op2, Dd.we_call, Dd.we_tst, Dd.we_tru, Dd.we_notT, Dd.we_andT, Dd.we_orT, Dd.we_notV, Dd.we_andV, Dd.we_orV, Dd.we_ite, Dd.we_chn, Dd.we_mth, Dd.we_slice, Dd.we_intOf, Dd.nx_next, Dd.nx_ret, Dd.nx_ex, Dd.td_next, Dd.td_cont, Dd.td_brk, Dd.td_ret, Dd.td_ex, Dd.nx_brk, Dd.nx_cont, Dd.wp_skip, Dd.wp_seq, Dd.wp_drop, Dd.wp_ret, Dd.wp_asg, Dd.wp_if, Dd.wp_raise, Dd.wp_set, Dk.wp_aug, Dk.wp_brk, Dk.p_and127, Dk.p_and255, Dk.p_and1, Dk.p_shr8, Dk.p_shr16, Dk.p_shr24, Dk.p_ashr7, Dk.p_ashr8, Dk.p_aadd, Dk.p_asub, Dd.WO, Dk.eq_ss, Dk.ne_ss, Dk.eq_ii, Dk.ne_ii, Dk.isNot_non, Dk.q_add, Dk.q_addt, Dk.q_sub, Dk.q_mod, Dk.q_fdiv, Dk.q_mulr, Dk.q_mull, Dk.q_neg, Dk.q_lt, Dk.q_le, Dk.q_gt, Dk.q_ge, Dk.q_ix0, Dk.q_ix1, Dk.q_ix2, Dk.q_is_t, Dk.q_is_s, Dk.q_is_lt, Dk.q_is_ll, Dk.q_tru, Dk.q_lent, Dk.q_lenr, Dk.q_int, Dk.q_intb, Dk.q_abs, Dk.q_tupr, Dk.q_lstt, Dk.q_lst, Dk.q_tup, Dk.q_oka, Dk.q_oke, Dk.q_okj, Dk.q_app, Dk.q_ext, Dk.q_nm, Dk.q_tp, Dk.q_sa0, Dk.q_sa1, Dk.q_isn, Dk.q_isb, Dk.q_wipe0, Dk.q_wipe1, b2]
  refine (w7 (c + 3) f w xs _ l1 hx (by omega) (by have := Nat.mul_le_mul (Nat.le_of_lt hw) xl; omega)).mono ?_ fun _ _ _ z => z.elim
  rintro d h4 ⟨rfl, g, l4⟩
  rw [ne_nD l4 (g.lst l2)]
  simp
  exact fin _ g
theorem t16_ok (c : Nat) (e6 : e[6]? = some (some (.int (w : Int)))) (e9 : e[9]? = some (some (.ref f))) (e10 : e[10]? = some (some (.ref p))) (l1 : lstAt h f = some (nD xs)) (l2 : lstAt h p = some (nD (packB w xs))) (hw : w < 13) (hx : ∀ x ∈ xs, x < 2 ^ w) (xl : xs.length ≤ 17)
    (fin : ∀ h', Grow h h' → Q .next e h') : WP (t16 (pg.run (c + 4))) e h Q := by
  unfold t16
  have zz : Z = 16777216 := rfl
  obtain ⟨pk, hpk⟩ : ∃ pk, pk = packB w xs := ⟨_, rfl⟩
  have pl := packB_len w xs
  have mm := Nat.mul_le_mul xl (Nat.le_of_lt hw)
  rw [← hpk] at l2 pl
  have z1 : 1 + pk.length ≤ Z := by omega
  have z2 : pk.length + 1 + 1 ≤ Z := by omega
  simp [Dd.we_ret, Dd.we_bnd, Dd.we_lift, Dd.we_var, Dd.we_args_nil, Dd.we_args_cons, Dd.we_opN, Dd.we_op1, Dd.we_op2, Dd.we_call, Dd.we_tst, Dd.we_tru, Dd.we_notT, Dd.we_andT, Dd.we_orT, Dd.we_notV, Dd.we_andV, Dd.we_orV, Dd.we_ite, Dd.we_chn, Dd.we_mth, Dd.we_slice, Dd.we_intOf, Dd.nx_next, Dd.nx_ret, Dd.nx_ex, Dd.td_next, Dd.td_cont, Dd.td_brk, Dd.td_ret, Dd.td_ex, Dd.nx_brk, Dd.nx_cont, Dd.wp_skip, Dd.wp_seq, Dd.wp_drop, Dd.wp_ret, Dd.wp_asg, Dd.wp_if, Dd.wp_raise, Dd.wp_set, Dk.wp_aug, Dk.wp_brk, Dk.p_and127, Dk.p_and255, Dk.p_and1, Dk.p_shr8, Dk.p_shr16, Dk.p_shr24, Dk.p_ashr7, Dk.p_ashr8, Dk.p_aadd, Dk.p_asub, Dd.WO, Dk.eq_ss, Dk.ne_ss, Dk.eq_ii, Dk.ne_ii, Dk.isNot_non, Dk.q_add, Dk.q_addt, Dk.q_sub, Dk.q_mod, Dk.q_fdiv, Dk.q_mulr, Dk.q_mull, Dk.q_neg, Dk.q_lt, Dk.q_le, Dk.q_gt, Dk.q_ge, Dk.q_ix0, Dk.q_ix1, Dk.q_ix2, Dk.q_is_t, Dk.q_is_s, Dk.q_is_lt, Dk.q_is_ll, Dk.q_tru, Dk.q_lent, Dk.q_lenr, Dk.q_int, Dk.q_intb, Dk.q_abs, Dk.q_tupr, Dk.q_lstt, Dk.q_lst, Dk.q_tup, Dk.q_oka, Dk.q_oke, Dk.q_okj, Dk.q_app, Dk.q_ext, Dk.q_nm, Dk.q_tp, Dk.q_sa0, Dk.q_sa1, Dk.q_isn, Dk.q_isb, Dk.q_wipe0, Dk.q_wipe1, e6, e9, e10, newOb, q_addr, lst_appk, lst_appz, lst_c0, lst_c1, lst_c2, lst_c3, lst_all l2, z1, nD_len, z2, lstAt_some (lst_all l1 _), lstAt_some (lst_all l2 _)]
  have l6 : lstAt (h ++ [Ob.lst [D.int 7], Ob.lst (D.int 7 :: nD pk), Ob.lst [D.int 1], Ob.lst (D.int 7 :: (nD pk ++ [D.int 1]))]) (h.length + 3) = some (nD ([7] ++ (pk ++ [1]))) := by rw [lst_appk, lst_c3, nD_app, nD_app]; rfl
  have bl : ∀ x ∈ [7] ++ (pk ++ [1]), x < 256 := by
    intro x hx
    rcases List.mem_append.mp hx with hx | hx
    · rw [List.mem_singleton.mp hx]; decide
    · rcases List.mem_append.mp hx with hx | hx
      · rw [hpk] at hx; exact packB_lt _ _ x hx
      · rw [List.mem_singleton.mp hx]; decide
  have tk' : (([7] ++ (pk ++ [1])).drop 1).take ((xs.length * w + 7) / 8) = pk := by
    rw [List.singleton_append, List.drop_succ_cons, List.drop_zero, ← pl, List.take_left]
  refine (w8 (c + 3) _ _ 1 xs.length w _ l6 bl (by omega) (by omega)).mono ?_ ?_
  · rintro d h6 ⟨f2, rfl, hf2, g6, l7, -, -⟩
    rw [tk', hpk, valN_packB hx, digN_valN hx] at l7
    have g7 : Grow h h6 := Grow.trans ⟨_, rfl⟩ g6
    simp [Dd.we_ret, Dd.we_bnd, Dd.we_lift, Dd.we_var, Dd.we_args_nil, Dd.we_args_cons, Dd.we_opN, Dd.we_op1, Dd.we_op2, Dd.we_call, Dd.we_tst, Dd.we_tru, Dd.we_notT, Dd.we_andT, Dd.we_orT, Dd.we_notV, Dd.we_andV, Dd.we_orV, Dd.we_ite, Dd.we_chn, Dd.we_mth, Dd.we_slice, Dd.we_intOf, Dd.nx_next, Dd.nx_ret, Dd.nx_ex, Dd.td_next, Dd.td_cont, Dd.td_brk, Dd.td_ret, Dd.td_ex, Dd.nx_brk, Dd.nx_cont, Dd.wp_skip, Dd.wp_seq, Dd.wp_drop, Dd.wp_ret, Dd.wp_asg, Dd.wp_if, Dd.wp_raise, Dd.wp_set, Dk.wp_aug, Dk.wp_brk, Dk.p_and127, Dk.p_and255, Dk.p_and1, Dk.p_shr8, Dk.p_shr16, Dk.p_shr24, Dk.p_ashr7, Dk.p_ashr8, Dk.p_aadd, Dk.p_asub, Dd.WO, Dk.eq_ss, Dk.ne_ss, Dk.eq_ii, Dk.ne_ii, Dk.isNot_non, Dk.q_add, Dk.q_addt, Dk.q_sub, Dk.q_mod, Dk.q_fdiv, Dk.q_mulr, Dk.q_mull, Dk.q_neg, Dk.q_lt, Dk.q_le, Dk.q_gt, Dk.q_ge, Dk.q_ix0, Dk.q_ix1, Dk.q_ix2, Dk.q_is_t, Dk.q_is_s, Dk.q_is_lt, Dk.q_is_ll, Dk.q_tru, Dk.q_lent, Dk.q_lenr, Dk.q_int, Dk.q_intb, Dk.q_abs, Dk.q_tupr, Dk.q_lstt, Dk.q_lst, Dk.q_tup, Dk.q_oka, Dk.q_oke, Dk.q_okj, Dk.q_app, Dk.q_ext, Dk.q_nm, Dk.q_tp, Dk.q_sa0, Dk.q_sa1, Dk.q_isn, Dk.q_isb, Dk.q_wipe0, Dk.q_wipe1, e6, e9, e10, lstAt_some (g7.lst l2), nD_len]
    rw [ne_tl (by omega) l7 (g7.lst l1)]
    simp
    exact fin _ g7
  · rintro c p h2 ⟨-, -, -, z⟩
    rw [tk', hpk, valN_packB hx, ← hpk, ← pl] at z
    have := valN_lt hx
    simp only [List.length_append, List.length_cons, List.length_nil] at z
    omega
theorem t17_ok (c : Nat) (e6 : e[6]? = some (some (.int (w : Int)))) (e9 : e[9]? = some (some (.ref f))) (e10 : e[10]? = some (some (.ref p))) (l1 : lstAt h f = some (nD xs)) (l2 : lstAt h p = some (nD (packB w xs))) (hw : w < 13) (hx : ∀ x ∈ xs, x < 2 ^ w) (xl : xs.length ≤ 17)
    (fin : ∀ h', Grow h h' → Q .next e h') : WP (t17 (pg.run (c + 4))) e h Q := by
  unfold t17
  obtain ⟨pk, hpk⟩ : ∃ pk, pk = packB w xs := ⟨_, rfl⟩
  have pl := packB_len w xs
  rw [← hpk] at l2 pl
  by_cases c0 : pk = []
  · have c1 : ¬ (0 : Int) < (pk.length : Int) := by rw [c0]; decide
    have c2 : ¬ 0 < pk.length := by rw [c0]; decide
    simp [Dd.we_ret, Dd.we_bnd, Dd.we_lift, Dd.we_var, Dd.we_args_nil, Dd.we_args_cons, Dd.we_opN, Dd.we_op1, Dd.we_op2, Dd.we_call, Dd.we_tst, Dd.we_tru, Dd.we_notT, Dd.we_andT, Dd.we_orT, Dd.we_notV, Dd.we_andV, Dd.we_orV, Dd.we_ite, Dd.we_chn, Dd.we_mth, Dd.we_slice, Dd.we_intOf, Dd.nx_next, Dd.nx_ret, Dd.nx_ex, Dd.td_next, Dd.td_cont, Dd.td_brk, Dd.td_ret, Dd.td_ex, Dd.nx_brk, Dd.nx_cont, Dd.wp_skip, Dd.wp_seq, Dd.wp_drop, Dd.wp_ret, Dd.wp_asg, Dd.wp_if, Dd.wp_raise, Dd.wp_set, Dk.wp_aug, Dk.wp_brk, Dk.p_and127, Dk.p_and255, Dk.p_and1, Dk.p_shr8, Dk.p_shr16, Dk.p_shr24, Dk.p_ashr7, Dk.p_ashr8, Dk.p_aadd, Dk.p_asub, Dd.WO, Dk.eq_ss, Dk.ne_ss, Dk.eq_ii, Dk.ne_ii, Dk.isNot_non, Dk.q_add, Dk.q_addt, Dk.q_sub, Dk.q_mod, Dk.q_fdiv, Dk.q_mulr, Dk.q_mull, Dk.q_neg, Dk.q_lt, Dk.q_le, Dk.q_gt, Dk.q_ge, Dk.q_ix0, Dk.q_ix1, Dk.q_ix2, Dk.q_is_t, Dk.q_is_s, Dk.q_is_lt, Dk.q_is_ll, Dk.q_tru, Dk.q_lent, Dk.q_lenr, Dk.q_int, Dk.q_intb, Dk.q_abs, Dk.q_tupr, Dk.q_lstt, Dk.q_lst, Dk.q_tup, Dk.q_oka, Dk.q_oke, Dk.q_okj, Dk.q_app, Dk.q_ext, Dk.q_nm, Dk.q_tp, Dk.q_sa0, Dk.q_sa1, Dk.q_isn, Dk.q_isb, Dk.q_wipe0, Dk.q_wipe1, e6, e9, e10, lstAt_some l2, nD_len, c1, c2, c0]
    exact fin _ (Grow.refl _)
  · have c2 : 0 < pk.length := List.length_pos_iff.mpr c0
    have c1 : (0 : Int) < (pk.length : Int) := by omega
    have cw : 0 < xs.length * w := by
      have : ¬ xs.length * w = 0 := fun z => by rw [z] at pl; omega
      omega
    have w0 : w ≠ 0 := fun z => by rw [z, Nat.mul_zero] at cw; omega
    have x0 : 0 < xs.length := Nat.pos_of_ne_zero fun z => by rw [z, Nat.zero_mul] at cw; omega
    simp [Dd.we_ret, Dd.we_bnd, Dd.we_lift, Dd.we_var, Dd.we_args_nil, Dd.we_args_cons, Dd.we_opN, Dd.we_op1, Dd.we_op2, Dd.we_call, Dd.we_tst, Dd.we_tru, Dd.we_notT, Dd.we_andT, Dd.we_orT, Dd.we_notV, Dd.we_andV, Dd.we_orV, Dd.we_ite, Dd.we_chn, Dd.we_mth, Dd.we_slice, Dd.we_intOf, Dd.nx_next, Dd.nx_ret, Dd.nx_ex, Dd.td_next, Dd.td_cont, Dd.td_brk, Dd.td_ret, Dd.td_ex, Dd.nx_brk, Dd.nx_cont, Dd.wp_skip, Dd.wp_seq, Dd.wp_drop, Dd.wp_ret, Dd.wp_asg, Dd.wp_if, Dd.wp_raise, Dd.wp_set, Dk.wp_aug, Dk.wp_brk, Dk.p_and127, Dk.p_and255, Dk.p_and1, Dk.p_shr8, Dk.p_shr16, Dk.p_shr24, Dk.p_ashr7, Dk.p_ashr8, Dk.p_aadd, Dk.p_asub, Dd.WO, Dk.eq_ss, Dk.ne_ss, Dk.eq_ii, Dk.ne_ii, Dk.isNot_non, Dk.q_add, Dk.q_addt, Dk.q_sub, Dk.q_mod, Dk.q_fdiv, Dk.q_mulr, Dk.q_mull, Dk.q_neg, Dk.q_lt, Dk.q_le, Dk.q_gt, Dk.q_ge, Dk.q_ix0, Dk.q_ix1, Dk.q_ix2, Dk.q_is_t, Dk.q_is_s, Dk.q_is_lt, Dk.q_is_ll, Dk.q_tru, Dk.q_lent, Dk.q_lenr, Dk.q_int, Dk.q_intb, Dk.q_abs, Dk.q_tupr, Dk.q_lstt, Dk.q_lst, Dk.q_tup, Dk.q_oka, Dk.q_oke, Dk.q_okj, Dk.q_app, Dk.q_ext, Dk.q_nm, Dk.q_tp, Dk.q_sa0, Dk.q_sa1, Dk.q_isn, Dk.q_isb, Dk.q_wipe0, Dk.q_wipe1, e6, e9, e10, lstAt_some l2, nD_len, c1, c2, c0, q_slr, l2, cut_last c0, newOb, lstAt_some (lst_all l1 _)]
    refine (w21_2 (c + 2) h.length pk.dropLast xs.length w _ lst_new (fun x hx => by rw [List.dropLast_eq_take, hpk] at hx; exact packB_lt _ _ x (List.mem_of_mem_take hx)) (by omega) (by omega) w0 x0 (unp_short (by rw [List.length_dropLast]; omega))).mono ?_ fun _ _ _ z => z.elim
    rintro d h2 ⟨rfl, g⟩
    simp [Dd.we_ret, Dd.we_bnd, Dd.we_lift, Dd.we_var, Dd.we_args_nil, Dd.we_args_cons, Dd.we_opN, Dd.we_op1, Dd.we_op2, Dd.we_call, Dd.we_tst, Dd.we_tru, Dd.we_notT, Dd.we_andT, Dd.we_orT, Dd.we_notV, Dd.we_andV, Dd.we_orV, Dd.we_ite, Dd.we_chn, Dd.we_mth, Dd.we_slice, Dd.we_intOf, Dd.nx_next, Dd.nx_ret, Dd.nx_ex, Dd.td_next, Dd.td_cont, Dd.td_brk, Dd.td_ret, Dd.td_ex, Dd.nx_brk, Dd.nx_cont, Dd.wp_skip, Dd.wp_seq, Dd.wp_drop, Dd.wp_ret, Dd.wp_asg, Dd.wp_if, Dd.wp_raise, Dd.wp_set, Dk.wp_aug, Dk.wp_brk, Dk.p_and127, Dk.p_and255, Dk.p_and1, Dk.p_shr8, Dk.p_shr16, Dk.p_shr24, Dk.p_ashr7, Dk.p_ashr8, Dk.p_aadd, Dk.p_asub, Dd.WO, Dk.eq_ss, Dk.ne_ss, Dk.eq_ii, Dk.ne_ii, Dk.isNot_non, Dk.q_add, Dk.q_addt, Dk.q_sub, Dk.q_mod, Dk.q_fdiv, Dk.q_mulr, Dk.q_mull, Dk.q_neg, Dk.q_lt, Dk.q_le, Dk.q_gt, Dk.q_ge, Dk.q_ix0, Dk.q_ix1, Dk.q_ix2, Dk.q_is_t, Dk.q_is_s, Dk.q_is_lt, Dk.q_is_ll, Dk.q_tru, Dk.q_lent, Dk.q_lenr, Dk.q_int, Dk.q_intb, Dk.q_abs, Dk.q_tupr, Dk.q_lstt, Dk.q_lst, Dk.q_tup, Dk.q_oka, Dk.q_oke, Dk.q_okj, Dk.q_app, Dk.q_ext, Dk.q_nm, Dk.q_tp, Dk.q_sa0, Dk.q_sa1, Dk.q_isn, Dk.q_isb, Dk.q_wipe0, Dk.q_wipe1, truD]
    exact fin _ (Grow.trans ⟨_, rfl⟩ g)
theorem t18_ok (c : Nat) (e6 : e[6]? = some (some (.int (w : Int)))) (e9 : e[9]? = some (some (.ref f))) (e10 : e[10]? = some (some (.ref p))) (l1 : lstAt h f = some (nD xs)) (l2 : lstAt h p = some (nD (packB w xs))) (hw : w < 13) (hx : ∀ x ∈ xs, x < 2 ^ w) (xl : xs.length ≤ 17)
    (fin : ∀ h', Grow h h' → Q .next e h') : WP (t18 (pg.run (c + 4))) e h Q := by
  unfold t18
  have zz : Z = 16777216 := rfl
  obtain ⟨pk, hpk⟩ : ∃ pk, pk = packB w xs := ⟨_, rfl⟩
  have pl := packB_len w xs
  rw [← hpk] at l2 pl
  have mm := Nat.mul_le_mul xl (Nat.le_of_lt hw)
  have m1 : ∀ h, mulD (.int (xs.length : Int)) (.int (w : Int)) h = some (.int ((xs.length * w : Nat) : Int), h) := fun h => by
    rw [q_mulr _ _ _ (by omega) (by omega)]; norm_cast
  obtain ⟨cw, hcw⟩ : ∃ cw, cw = xs.length * w := ⟨_, rfl⟩
  rw [← hcw] at m1 pl mm
  by_cases c0 : 0 < cw % 8
  · have c1 : (0 : Int) < (cw : Int) % 8 := by omega
    have w0 : w ≠ 0 := fun z => by rw [hcw, z, Nat.mul_zero] at c0; omega
    have x0 : 0 < xs.length := Nat.pos_of_ne_zero fun z => by rw [hcw, z, Nat.zero_mul] at c0; omega
    have pn : pk ≠ [] := fun z => by rw [z, List.length_nil] at pl; omega
    have dl : pk.dropLast.length + 1 = pk.length := by rw [List.length_dropLast]; omega
    have z1 : pk.dropLast.length + 1 ≤ Z := by omega
    have cl := cut_last pn
    obtain ⟨q, hq⟩ : ∃ q, q = pk.dropLast := ⟨_, rfl⟩
    rw [← hq] at dl z1 cl
    simp [Dd.we_ret, Dd.we_bnd, Dd.we_lift, Dd.we_var, Dd.we_args_nil, Dd.we_args_cons, Dd.we_opN, Dd.we_op1, Dd.we_op2, Dd.we_call, Dd.we_tst, Dd.we_tru, Dd.we_notT, Dd.we_andT, Dd.we_orT, Dd.we_notV, Dd.we_andV, Dd.we_orV, Dd.we_ite, Dd.we_chn, Dd.we_mth, Dd.we_slice, Dd.we_intOf, Dd.nx_next, Dd.nx_ret, Dd.nx_ex, Dd.td_next, Dd.td_cont, Dd.td_brk, Dd.td_ret, Dd.td_ex, Dd.nx_brk, Dd.nx_cont, Dd.wp_skip, Dd.wp_seq, Dd.wp_drop, Dd.wp_ret, Dd.wp_asg, Dd.wp_if, Dd.wp_raise, Dd.wp_set, Dk.wp_aug, Dk.wp_brk, Dk.p_and127, Dk.p_and255, Dk.p_and1, Dk.p_shr8, Dk.p_shr16, Dk.p_shr24, Dk.p_ashr7, Dk.p_ashr8, Dk.p_aadd, Dk.p_asub, Dd.WO, Dk.eq_ss, Dk.ne_ss, Dk.eq_ii, Dk.ne_ii, Dk.isNot_non, Dk.q_add, Dk.q_addt, Dk.q_sub, Dk.q_mod, Dk.q_fdiv, Dk.q_mulr, Dk.q_mull, Dk.q_neg, Dk.q_lt, Dk.q_le, Dk.q_gt, Dk.q_ge, Dk.q_ix0, Dk.q_ix1, Dk.q_ix2, Dk.q_is_t, Dk.q_is_s, Dk.q_is_lt, Dk.q_is_ll, Dk.q_tru, Dk.q_lent, Dk.q_lenr, Dk.q_int, Dk.q_intb, Dk.q_abs, Dk.q_tupr, Dk.q_lstt, Dk.q_lst, Dk.q_tup, Dk.q_oka, Dk.q_oke, Dk.q_okj, Dk.q_app, Dk.q_ext, Dk.q_nm, Dk.q_tp, Dk.q_sa0, Dk.q_sa1, Dk.q_isn, Dk.q_isb, Dk.q_wipe0, Dk.q_wipe1, e6, e9, e10, lstAt_some l1, lstAt_some l2, nD_len, m1, c1, c0, q_slr, l2, cl, newOb, q_addr, lst_appk, lst_appz, lst_c0, lst_c1, lst_c2, z1, lstAt_some (lst_all l1 _)]
    have l6 : lstAt (h ++ [Ob.lst (nD q), Ob.lst [D.int 255], Ob.lst (nD q ++ [D.int 255])]) (h.length + 2) = some (nD (q ++ [255])) := by rw [lst_appk, lst_c2, nD_app]; rfl
    refine (w21_2 (c + 2) _ (q ++ [255]) xs.length w _ l6 (fun x hx => ?_) (by omega) (by omega) w0 x0 (unp_bits (by rw [← hcw]; exact c0) (by rw [← hcw]; omega))).mono ?_ fun _ _ _ z => z.elim
    · rcases List.mem_append.mp hx with hx | hx
      · rw [hq, List.dropLast_eq_take, hpk] at hx; exact packB_lt _ _ x (List.mem_of_mem_take hx)
      · rw [List.mem_singleton.mp hx]; decide
    rintro d h2 ⟨rfl, g⟩
    simp [Dd.we_ret, Dd.we_bnd, Dd.we_lift, Dd.we_var, Dd.we_args_nil, Dd.we_args_cons, Dd.we_opN, Dd.we_op1, Dd.we_op2, Dd.we_call, Dd.we_tst, Dd.we_tru, Dd.we_notT, Dd.we_andT, Dd.we_orT, Dd.we_notV, Dd.we_andV, Dd.we_orV, Dd.we_ite, Dd.we_chn, Dd.we_mth, Dd.we_slice, Dd.we_intOf, Dd.nx_next, Dd.nx_ret, Dd.nx_ex, Dd.td_next, Dd.td_cont, Dd.td_brk, Dd.td_ret, Dd.td_ex, Dd.nx_brk, Dd.nx_cont, Dd.wp_skip, Dd.wp_seq, Dd.wp_drop, Dd.wp_ret, Dd.wp_asg, Dd.wp_if, Dd.wp_raise, Dd.wp_set, Dk.wp_aug, Dk.wp_brk, Dk.p_and127, Dk.p_and255, Dk.p_and1, Dk.p_shr8, Dk.p_shr16, Dk.p_shr24, Dk.p_ashr7, Dk.p_ashr8, Dk.p_aadd, Dk.p_asub, Dd.WO, Dk.eq_ss, Dk.ne_ss, Dk.eq_ii, Dk.ne_ii, Dk.isNot_non, Dk.q_add, Dk.q_addt, Dk.q_sub, Dk.q_mod, Dk.q_fdiv, Dk.q_mulr, Dk.q_mull, Dk.q_neg, Dk.q_lt, Dk.q_le, Dk.q_gt, Dk.q_ge, Dk.q_ix0, Dk.q_ix1, Dk.q_ix2, Dk.q_is_t, Dk.q_is_s, Dk.q_is_lt, Dk.q_is_ll, Dk.q_tru, Dk.q_lent, Dk.q_lenr, Dk.q_int, Dk.q_intb, Dk.q_abs, Dk.q_tupr, Dk.q_lstt, Dk.q_lst, Dk.q_tup, Dk.q_oka, Dk.q_oke, Dk.q_okj, Dk.q_app, Dk.q_ext, Dk.q_nm, Dk.q_tp, Dk.q_sa0, Dk.q_sa1, Dk.q_isn, Dk.q_isb, Dk.q_wipe0, Dk.q_wipe1, truD]
    exact fin _ (Grow.trans ⟨_, rfl⟩ g)
  · have c1 : ¬ (0 : Int) < (cw : Int) % 8 := by omega
    have c2 : (cw : Int) % 8 ≤ 0 := by omega
    simp [Dd.we_ret, Dd.we_bnd, Dd.we_lift, Dd.we_var, Dd.we_args_nil, Dd.we_args_cons, Dd.we_opN, Dd.we_op1, Dd.we_op2, Dd.we_call, Dd.we_tst, Dd.we_tru, Dd.we_notT, Dd.we_andT, Dd.we_orT, Dd.we_notV, Dd.we_andV, Dd.we_orV, Dd.we_ite, Dd.we_chn, Dd.we_mth, Dd.we_slice, Dd.we_intOf, Dd.nx_next, Dd.nx_ret, Dd.nx_ex, Dd.td_next, Dd.td_cont, Dd.td_brk, Dd.td_ret, Dd.td_ex, Dd.nx_brk, Dd.nx_cont, Dd.wp_skip, Dd.wp_seq, Dd.wp_drop, Dd.wp_ret, Dd.wp_asg, Dd.wp_if, Dd.wp_raise, Dd.wp_set, Dk.wp_aug, Dk.wp_brk, Dk.p_and127, Dk.p_and255, Dk.p_and1, Dk.p_shr8, Dk.p_shr16, Dk.p_shr24, Dk.p_ashr7, Dk.p_ashr8, Dk.p_aadd, Dk.p_asub, Dd.WO, Dk.eq_ss, Dk.ne_ss, Dk.eq_ii, Dk.ne_ii, Dk.isNot_non, Dk.q_add, Dk.q_addt, Dk.q_sub, Dk.q_mod, Dk.q_fdiv, Dk.q_mulr, Dk.q_mull, Dk.q_neg, Dk.q_lt, Dk.q_le, Dk.q_gt, Dk.q_ge, Dk.q_ix0, Dk.q_ix1, Dk.q_ix2, Dk.q_is_t, Dk.q_is_s, Dk.q_is_lt, Dk.q_is_ll, Dk.q_tru, Dk.q_lent, Dk.q_lenr, Dk.q_int, Dk.q_intb, Dk.q_abs, Dk.q_tupr, Dk.q_lstt, Dk.q_lst, Dk.q_tup, Dk.q_oka, Dk.q_oke, Dk.q_okj, Dk.q_app, Dk.q_ext, Dk.q_nm, Dk.q_tp, Dk.q_sa0, Dk.q_sa1, Dk.q_isn, Dk.q_isb, Dk.q_wipe0, Dk.q_wipe1, e6, e9, e10, lstAt_some l1, nD_len, m1, c1, c0]
    exact fin _ (Grow.refl _)
end
end Dk

set_option Elab.async false
set_option linter.all false
set_option maxRecDepth 100000
set_option maxHeartbeats 4000000
namespace Dk
open PySem PySem.Spec PyProof.Rows L2 Dd

theorem w14i (n : Nat) (c : Int) (many : Nat) (v : Int) (hv : v = (many : Int)) (hmany : many ≤ 100) (h : DH) : WC (pg.run (n + 1)) 14 [.int c, .int v] h (fun d h' => d = .ref h.length ∧ Grow h h' ∧ ∃ ns : List Nat, lstAt h' h.length = some (nD ns) ∧ ns.length = many ∧ ∀ x ∈ ns, x < 1048576) fun _ _ _ => False := by
  rw [hv]; exact w14 n c many hmany h
section
variable {e : DE} {h : DH} {Q : Fl → DE → DH → Prop} {f p w : Nat} {xs : List Nat}
theorem set_get {e : DE} {i : Nat} {x : Option D} (hi : i < e.length) : (e.set i x)[i]? = some x := List.getElem?_set_self hi
def I12t (e0 : DE) (h0 : DH) (k : Nat) (e : DE) (hh : DH) : Prop := ∃ x, e = (e0.set 7 (some (.int ((2 ^ k : Nat) : Int)))).set 8 x ∧ hh = h0
theorem t12_ok (c : Nat) (el : e.length = 15) (e6 : e[6]? = some (some (.int (w : Int)))) (e7 : e[7]? = some (some (.int 1))) (hw : w < 13)
    (fin : ∀ x, Q .next ((e.set 7 (some (.int ((2 ^ w : Nat) : Int)))).set 8 x) h) : WP (t12 (pg.run (c + 4))) e h Q := by
  unfold t12
  have e8 : ∃ x, e[8]? = some x := ⟨e[8], List.getElem?_eq_getElem (by omega)⟩
  obtain ⟨x8, e8⟩ := e8
  have self : e = (e.set 7 (some (.int ((2 ^ 0 : Nat) : Int)))).set 8 x8 := by
    apply List.ext_getElem?
    intro j
    by_cases j8 : j = 8
    · subst j8
      rw [e8, List.getElem?_set_self (by rw [List.length_set]; omega)]
    · rw [List.getElem?_set_ne (by omega)]
      by_cases j7 : j = 7
      · subst j7
        rw [e7, List.getElem?_set_self (by omega)]; rfl
      · rw [List.getElem?_set_ne (by omega)]
  refine for_rngS w (I12t e h) ?_ (by have : Z = 16777216 := rfl; omega) ⟨x8, self, rfl⟩ ?_ ?_
  · simp [Dd.we_ret, Dd.we_bnd, Dd.we_lift, Dd.we_var, Dd.we_args_nil, Dd.we_args_cons, Dd.we_opN, Dd.we_op1, Dd.we_op2, Dd.we_call, Dd.we_tst, Dd.we_tru, Dd.we_notT, Dd.we_andT, Dd.we_orT, Dd.we_notV, Dd.we_andV, Dd.we_orV, Dd.we_ite, Dd.we_chn, Dd.we_mth, Dd.we_slice, Dd.we_intOf, Dd.nx_next, Dd.nx_ret, Dd.nx_ex, Dd.td_next, Dd.td_cont, Dd.td_brk, Dd.td_ret, Dd.td_ex, Dd.nx_brk, Dd.nx_cont, Dd.wp_skip, Dd.wp_seq, Dd.wp_drop, Dd.wp_ret, Dd.wp_asg, Dd.wp_if, Dd.wp_raise, Dd.wp_set, Dk.wp_aug, Dk.wp_brk, Dk.p_and127, Dk.p_and255, Dk.p_and1, Dk.p_shr8, Dk.p_shr16, Dk.p_shr24, Dk.p_ashr7, Dk.p_ashr8, Dk.p_aadd, Dk.p_asub, Dd.WO, Dk.eq_ss, Dk.ne_ss, Dk.eq_ii, Dk.ne_ii, Dk.isNot_non, Dk.q_add, Dk.q_addt, Dk.q_sub, Dk.q_mod, Dk.q_fdiv, Dk.q_mulr, Dk.q_mull, Dk.q_neg, Dk.q_lt, Dk.q_le, Dk.q_gt, Dk.q_ge, Dk.q_ix0, Dk.q_ix1, Dk.q_ix2, Dk.q_is_t, Dk.q_is_s, Dk.q_is_lt, Dk.q_is_ll, Dk.q_tru, Dk.q_lent, Dk.q_lenr, Dk.q_int, Dk.q_intb, Dk.q_abs, Dk.q_tupr, Dk.q_lstt, Dk.q_lst, Dk.q_tup, Dk.q_oka, Dk.q_oke, Dk.q_okj, Dk.q_app, Dk.q_ext, Dk.q_nm, Dk.q_tp, Dk.q_sa0, Dk.q_sa1, Dk.q_isn, Dk.q_isb, Dk.q_wipe0, Dk.q_wipe1, e6]
  · rintro e' hh ⟨x, rfl, rfl⟩
    exact fin x
  · rintro k e' hh hk ⟨x, rfl, rfl⟩
    refine ⟨_, rfl, ?_⟩
    have g7 : (((e.set 7 (some (.int ((2 ^ k : Nat) : Int)))).set 8 x).set 8 (some (.int (k : Int))))[7]? = some (some (.int ((2 ^ k : Nat) : Int))) := by
      rw [List.set_set, List.getElem?_set_ne (by decide), List.getElem?_set_self (by omega)]
    obtain ⟨s, hs⟩ : ∃ s, s = 2 ^ k := ⟨_, rfl⟩
    rw [← hs] at g7 ⊢
    have m2 : ∀ h, mulD (.int (s : Int)) (.int 2) h = some (.int ((s * 2 : Nat) : Int), h) := fun h => by rw [q_mulr _ _ _ (by decide) (by decide)]; norm_cast
    rw [wp_seq, wp_asg, we_op2, we_var]
    refine ⟨_, g7, ?_⟩
    rw [we_ret, wo_iff]
    refine ⟨_, _, m2 _, _, rfl, ?_⟩
    rw [nx_next, wp_skip]
    refine ⟨some (.int (k : Int)), ?_, rfl⟩
    rw [List.set_set, List.set_comm _ _ (by decide : 8 ≠ 7), List.set_set, Nat.pow_succ, hs]
def I13 (i : Nat) (ns : List Nat) (s : Nat) (h : DH) (k : Nat) (acc : List D) (hh : DH) : Prop := lstAt hh i = some (nD ns) ∧ Grow h hh ∧ ∃ ys : List Nat, acc = nD ys ∧ ys.length = k ∧ ∀ y ∈ ys, y < s
theorem t13_ok (c s : Nat) (ns : List Int) (el : e.length = 15) (e0 : e[0]? = some (some (.frz ns))) (e7 : e[7]? = some (some (.int (s : Int)))) (s0 : 0 < s)
    (fin : ∀ f xs h', Grow h h' → lstAt h' f = some (nD xs) → xs.length ≤ 17 → (∀ x ∈ xs, x < s) → Q .next (e.set 9 (some (.ref f))) h') : WP (t13 (pg.run (c + 4))) e h Q := by
  have zz : Z = 16777216 := rfl
  unfold t13
  obtain ⟨a, ha⟩ : ∃ a, a = (cellN ns 2).natAbs := ⟨_, rfl⟩
  have wa : WE (callM (pg.run (c + 4)) 14 [callM (pg.run (c + 4)) 13 [var 0, Dd.ret (.int 3)], op2 addD (Dd.ret (.int 1)) (op2 modD (opN (bltD .abs) [callM (pg.run (c + 4)) 13 [var 0, Dd.ret (.int 2)]]) (Dd.ret (.int 17)))]) e h (fun d h1 => d = .ref h.length ∧ Grow h h1 ∧ ∃ ns : List Nat, lstAt h1 h.length = some (nD ns) ∧ ns.length = 1 + a % 17 ∧ ∀ x ∈ ns, x < 1048576) fun _ _ _ => False := by
    simp [Dd.we_ret, Dd.we_bnd, Dd.we_lift, Dd.we_var, Dd.we_args_nil, Dd.we_args_cons, Dd.we_opN, Dd.we_op1, Dd.we_op2, Dd.we_call, Dd.we_tst, Dd.we_tru, Dd.we_notT, Dd.we_andT, Dd.we_orT, Dd.we_notV, Dd.we_andV, Dd.we_orV, Dd.we_ite, Dd.we_chn, Dd.we_mth, Dd.we_slice, Dd.we_intOf, Dd.nx_next, Dd.nx_ret, Dd.nx_ex, Dd.td_next, Dd.td_cont, Dd.td_brk, Dd.td_ret, Dd.td_ex, Dd.nx_brk, Dd.nx_cont, Dd.wp_skip, Dd.wp_seq, Dd.wp_drop, Dd.wp_ret, Dd.wp_asg, Dd.wp_if, Dd.wp_raise, Dd.wp_set, Dk.wp_aug, Dk.wp_brk, Dk.p_and127, Dk.p_and255, Dk.p_and1, Dk.p_shr8, Dk.p_shr16, Dk.p_shr24, Dk.p_ashr7, Dk.p_ashr8, Dk.p_aadd, Dk.p_asub, Dd.WO, Dk.eq_ss, Dk.ne_ss, Dk.eq_ii, Dk.ne_ii, Dk.isNot_non, Dk.q_add, Dk.q_addt, Dk.q_sub, Dk.q_mod, Dk.q_fdiv, Dk.q_mulr, Dk.q_mull, Dk.q_neg, Dk.q_lt, Dk.q_le, Dk.q_gt, Dk.q_ge, Dk.q_ix0, Dk.q_ix1, Dk.q_ix2, Dk.q_is_t, Dk.q_is_s, Dk.q_is_lt, Dk.q_is_ll, Dk.q_tru, Dk.q_lent, Dk.q_lenr, Dk.q_int, Dk.q_intb, Dk.q_abs, Dk.q_tupr, Dk.q_lstt, Dk.q_lst, Dk.q_tup, Dk.q_oka, Dk.q_oke, Dk.q_okj, Dk.q_app, Dk.q_ext, Dk.q_nm, Dk.q_tp, Dk.q_sa0, Dk.q_sa1, Dk.q_isn, Dk.q_isb, Dk.q_wipe0, Dk.q_wipe1, e0]
    refine (w13i (c + 3) ns 3 _ _ rfl).mono ?_ fun _ _ _ z => z.elim
    rintro d h2 ⟨rfl, rfl⟩
    refine (w13i (c + 3) ns 2 _ _ rfl).mono ?_ fun _ _ _ z => z.elim
    rintro d h3 ⟨rfl, rfl⟩
    simp [Dd.we_ret, Dd.we_bnd, Dd.we_lift, Dd.we_var, Dd.we_args_nil, Dd.we_args_cons, Dd.we_opN, Dd.we_op1, Dd.we_op2, Dd.we_call, Dd.we_tst, Dd.we_tru, Dd.we_notT, Dd.we_andT, Dd.we_orT, Dd.we_notV, Dd.we_andV, Dd.we_orV, Dd.we_ite, Dd.we_chn, Dd.we_mth, Dd.we_slice, Dd.we_intOf, Dd.nx_next, Dd.nx_ret, Dd.nx_ex, Dd.td_next, Dd.td_cont, Dd.td_brk, Dd.td_ret, Dd.td_ex, Dd.nx_brk, Dd.nx_cont, Dd.wp_skip, Dd.wp_seq, Dd.wp_drop, Dd.wp_ret, Dd.wp_asg, Dd.wp_if, Dd.wp_raise, Dd.wp_set, Dk.wp_aug, Dk.wp_brk, Dk.p_and127, Dk.p_and255, Dk.p_and1, Dk.p_shr8, Dk.p_shr16, Dk.p_shr24, Dk.p_ashr7, Dk.p_ashr8, Dk.p_aadd, Dk.p_asub, Dd.WO, Dk.eq_ss, Dk.ne_ss, Dk.eq_ii, Dk.ne_ii, Dk.isNot_non, Dk.q_add, Dk.q_addt, Dk.q_sub, Dk.q_mod, Dk.q_fdiv, Dk.q_mulr, Dk.q_mull, Dk.q_neg, Dk.q_lt, Dk.q_le, Dk.q_gt, Dk.q_ge, Dk.q_ix0, Dk.q_ix1, Dk.q_ix2, Dk.q_is_t, Dk.q_is_s, Dk.q_is_lt, Dk.q_is_ll, Dk.q_tru, Dk.q_lent, Dk.q_lenr, Dk.q_int, Dk.q_intb, Dk.q_abs, Dk.q_tupr, Dk.q_lstt, Dk.q_lst, Dk.q_tup, Dk.q_oka, Dk.q_oke, Dk.q_okj, Dk.q_app, Dk.q_ext, Dk.q_nm, Dk.q_tp, Dk.q_sa0, Dk.q_sa1, Dk.q_isn, Dk.q_isb, Dk.q_wipe0, Dk.q_wipe1, abs_eq, ← ha]
    exact w14i (c + 3) _ (1 + a % 17) _ (by omega) (by omega) _
  rw [wp_asg]
  refine lc_list (fun i xs idx k acc hh => ∃ ns, xs = nD ns ∧ ns.length ≤ 17 ∧ i < idx ∧ h.length ≤ idx ∧ I13 i ns s h k acc hh) (wa.mono (fun d h1 x => ?_) fun _ _ _ x => x.elim)
  obtain ⟨rfl, g, ms, l, ml, mx⟩ := x
  refine ⟨h.length, nD ms, rfl, l, by rw [nD_len]; omega, ⟨ms, rfl, by omega, (List.getElem?_eq_some_iff.mp (lstAt_some l)).1, g.le, (Grow.one _ _).lst l, g.trans (Grow.one _ _), [], rfl, rfl, fun _ z => (List.not_mem_nil z).elim⟩, ?_, ?_, ?_⟩
  · rintro k acc hh ⟨ns, q, -, -, -, l, -⟩
    rw [q]; exact l
  · rintro acc hh la ⟨ns, q, nl, -, -, -, g, ys, rfl, yl, hy⟩
    refine ⟨_, rfl, fin _ ys hh g la ?_ hy⟩
    rw [yl, q, nD_len]; exact nl
  · rintro k d acc hh hk la ⟨ns, q, nl, i1, i2, l, g, ys, rfl, yl, hy⟩
    rw [q] at hk
    have hkl : k < ns.length := by
      have := (List.getElem?_eq_some_iff.mp hk).1
      rwa [nD_len] at this
    rw [nD_get hkl] at hk
    obtain ⟨y, hy0⟩ : ∃ y, y = ns[k] := ⟨_, rfl⟩
    rw [← hy0] at hk
    cases hk
    refine ⟨_, rfl, ?_⟩
    have w7 : ((wipeE e [14]).set 14 (some (.int (y : Int))))[7]? = some (some (.int (s : Int))) := by
      rw [q_wipe1, q_wipe0, List.getElem?_set_ne (by decide), List.getElem?_set_ne (by decide)]; exact e7
    have w14 : ((wipeE e [14]).set 14 (some (.int (y : Int))))[14]? = some (some (.int (y : Int))) := by
      rw [q_wipe1, q_wipe0, List.getElem?_set_self (by rw [List.length_set]; omega)]
    have md : ∀ h, modD (.int (y : Int)) (.int (s : Int)) h = some (.int ((y % s : Nat) : Int), h) := fun h => by
      rw [q_mod _ _ _ (by omega)]; norm_cast
    unfold Elt
    rw [we_op2, we_opN, we_args_cons, we_var]
    refine ⟨_, w14, ?_⟩
    rw [we_args_nil, wo_iff]
    refine ⟨_, _, q_int _ _, ?_⟩
    rw [we_var]
    refine ⟨_, w7, ?_⟩
    rw [wo_iff]
    refine ⟨_, _, md _, la, ns, q, nl, i1, i2, lst_other (by omega) l, g.set _ i2, ys ++ [y % s], by rw [nD_app]; rfl, by rw [List.length_append, yl]; rfl, fun z hz => ?_⟩
    rcases List.mem_append.mp hz with hz | hz
    · exact hy z hz
    · rw [List.mem_singleton.mp hz]; exact Nat.mod_lt _ s0
theorem t14_ok (c : Nat) (e6 : e[6]? = some (some (.int (w : Int)))) (e9 : e[9]? = some (some (.ref f))) (l1 : lstAt h f = some (nD xs)) (hw : w < 13) (hx : ∀ x ∈ xs, x < 2 ^ w) (xl : xs.length ≤ 17)
    (fin : ∀ p h', Grow h h' → lstAt h' p = some (nD (packB w xs)) → Q .next (e.set 10 (some (.ref p))) h') : WP (t14 (pg.run (c + 4))) e h Q := by
  unfold t14
  simp [Dd.we_ret, Dd.we_bnd, Dd.we_lift, Dd.we_var, Dd.we_args_nil, Dd.we_args_cons, Dd.we_opN, Dd.we_op1, Dd.we_op2, Dd.we_call, Dd.we_tst, Dd.we_tru, Dd.we_notT, Dd.we_andT, Dd.we_orT, Dd.we_notV, Dd.we_andV, Dd.we_orV, Dd.we_ite, Dd.we_chn, Dd.we_mth, Dd.we_slice, Dd.we_intOf, Dd.nx_next, Dd.nx_ret, Dd.nx_ex, Dd.td_next, Dd.td_cont, Dd.td_brk, Dd.td_ret, Dd.td_ex, Dd.nx_brk, Dd.nx_cont, Dd.wp_skip, Dd.wp_seq, Dd.wp_drop, Dd.wp_ret, Dd.wp_asg, Dd.wp_if, Dd.wp_raise, Dd.wp_set, Dk.wp_aug, Dk.wp_brk, Dk.p_and127, Dk.p_and255, Dk.p_and1, Dk.p_shr8, Dk.p_shr16, Dk.p_shr24, Dk.p_ashr7, Dk.p_ashr8, Dk.p_aadd, Dk.p_asub, Dd.WO, Dk.eq_ss, Dk.ne_ss, Dk.eq_ii, Dk.ne_ii, Dk.isNot_non, Dk.q_add, Dk.q_addt, Dk.q_sub, Dk.q_mod, Dk.q_fdiv, Dk.q_mulr, Dk.q_mull, Dk.q_neg, Dk.q_lt, Dk.q_le, Dk.q_gt, Dk.q_ge, Dk.q_ix0, Dk.q_ix1, Dk.q_ix2, Dk.q_is_t, Dk.q_is_s, Dk.q_is_lt, Dk.q_is_ll, Dk.q_tru, Dk.q_lent, Dk.q_lenr, Dk.q_int, Dk.q_intb, Dk.q_abs, Dk.q_tupr, Dk.q_lstt, Dk.q_lst, Dk.q_tup, Dk.q_oka, Dk.q_oke, Dk.q_okj, Dk.q_app, Dk.q_ext, Dk.q_nm, Dk.q_tp, Dk.q_sa0, Dk.q_sa1, Dk.q_isn, Dk.q_isb, Dk.q_wipe0, Dk.q_wipe1, e6, e9]
  have mm := Nat.mul_le_mul (Nat.le_of_lt hw) xl
  refine (w18 (c + 3) f w xs h l1 hx (by omega) (by omega)).mono ?_ fun _ _ _ z => z.elim
  rintro d h2 ⟨p, rfl, hp, g, l⟩
  exact fin p h2 g l
theorem t3_ok (c n : Nat) (e1 : e[1]? = some (some (.int (n : Int)))) (e2 : e[2]? = some (some (.ref p))) (l : lstAt h p = some (nD (numB n))) (hn : n < 34359738368)
    (fin : ∀ h', Grow h h' → Q .next e h') : WP (t3 (pg.run (c + 4))) e h Q := by
  unfold t3
  have zz : Z = 16777216 := rfl
  simp [Dd.we_ret, Dd.we_bnd, Dd.we_lift, Dd.we_var, Dd.we_args_nil, Dd.we_args_cons, Dd.we_opN, Dd.we_op1, Dd.we_op2, Dd.we_call, Dd.we_tst, Dd.we_tru, Dd.we_notT, Dd.we_andT, Dd.we_orT, Dd.we_notV, Dd.we_andV, Dd.we_orV, Dd.we_ite, Dd.we_chn, Dd.we_mth, Dd.we_slice, Dd.we_intOf, Dd.nx_next, Dd.nx_ret, Dd.nx_ex, Dd.td_next, Dd.td_cont, Dd.td_brk, Dd.td_ret, Dd.td_ex, Dd.nx_brk, Dd.nx_cont, Dd.wp_skip, Dd.wp_seq, Dd.wp_drop, Dd.wp_ret, Dd.wp_asg, Dd.wp_if, Dd.wp_raise, Dd.wp_set, Dk.wp_aug, Dk.wp_brk, Dk.p_and127, Dk.p_and255, Dk.p_and1, Dk.p_shr8, Dk.p_shr16, Dk.p_shr24, Dk.p_ashr7, Dk.p_ashr8, Dk.p_aadd, Dk.p_asub, Dd.WO, Dk.eq_ss, Dk.ne_ss, Dk.eq_ii, Dk.ne_ii, Dk.isNot_non, Dk.q_add, Dk.q_addt, Dk.q_sub, Dk.q_mod, Dk.q_fdiv, Dk.q_mulr, Dk.q_mull, Dk.q_neg, Dk.q_lt, Dk.q_le, Dk.q_gt, Dk.q_ge, Dk.q_ix0, Dk.q_ix1, Dk.q_ix2, Dk.q_is_t, Dk.q_is_s, Dk.q_is_lt, Dk.q_is_ll, Dk.q_tru, Dk.q_lent, Dk.q_lenr, Dk.q_int, Dk.q_intb, Dk.q_abs, Dk.q_tupr, Dk.q_lstt, Dk.q_lst, Dk.q_tup, Dk.q_oka, Dk.q_oke, Dk.q_okj, Dk.q_app, Dk.q_ext, Dk.q_nm, Dk.q_tp, Dk.q_sa0, Dk.q_sa1, Dk.q_isn, Dk.q_isb, Dk.q_wipe0, Dk.q_wipe1, e1, e2]
  refine (w0 (c + 3) n h hn).mono ?_ fun _ _ _ z => z.elim
  rintro d h2 ⟨rfl, g, l2⟩
  have l3 := g.lst l
  have nl := numB_len (n := n) (k := 4) (by omega)
  obtain ⟨nb, hnb⟩ : ∃ nb, nb = numB n := ⟨_, rfl⟩
  rw [← hnb] at l2 l3 nl
  have z1 : 1 + nb.length ≤ Z := by omega
  have z2 : nb.length + 1 + 2 ≤ Z := by omega
  simp [Dd.we_ret, Dd.we_bnd, Dd.we_lift, Dd.we_var, Dd.we_args_nil, Dd.we_args_cons, Dd.we_opN, Dd.we_op1, Dd.we_op2, Dd.we_call, Dd.we_tst, Dd.we_tru, Dd.we_notT, Dd.we_andT, Dd.we_orT, Dd.we_notV, Dd.we_andV, Dd.we_orV, Dd.we_ite, Dd.we_chn, Dd.we_mth, Dd.we_slice, Dd.we_intOf, Dd.nx_next, Dd.nx_ret, Dd.nx_ex, Dd.td_next, Dd.td_cont, Dd.td_brk, Dd.td_ret, Dd.td_ex, Dd.nx_brk, Dd.nx_cont, Dd.wp_skip, Dd.wp_seq, Dd.wp_drop, Dd.wp_ret, Dd.wp_asg, Dd.wp_if, Dd.wp_raise, Dd.wp_set, Dk.wp_aug, Dk.wp_brk, Dk.p_and127, Dk.p_and255, Dk.p_and1, Dk.p_shr8, Dk.p_shr16, Dk.p_shr24, Dk.p_ashr7, Dk.p_ashr8, Dk.p_aadd, Dk.p_asub, Dd.WO, Dk.eq_ss, Dk.ne_ss, Dk.eq_ii, Dk.ne_ii, Dk.isNot_non, Dk.q_add, Dk.q_addt, Dk.q_sub, Dk.q_mod, Dk.q_fdiv, Dk.q_mulr, Dk.q_mull, Dk.q_neg, Dk.q_lt, Dk.q_le, Dk.q_gt, Dk.q_ge, Dk.q_ix0, Dk.q_ix1, Dk.q_ix2, Dk.q_is_t, Dk.q_is_s, Dk.q_is_lt, Dk.q_is_ll, Dk.q_tru, Dk.q_lent, Dk.q_lenr, Dk.q_int, Dk.q_intb, Dk.q_abs, Dk.q_tupr, Dk.q_lstt, Dk.q_lst, Dk.q_tup, Dk.q_oka, Dk.q_oke, Dk.q_okj, Dk.q_app, Dk.q_ext, Dk.q_nm, Dk.q_tp, Dk.q_sa0, Dk.q_sa1, Dk.q_isn, Dk.q_isb, Dk.q_wipe0, Dk.q_wipe1, e1, e2, ne_nD l2 l3, newOb, q_addr, lst_appk, lst_appz, lst_c0, lst_c1, lst_c2, lst_c3, lst_all l3, z1, nD_len, z2]
  have l6 : lstAt (h2 ++ [Ob.lst [D.int 9], Ob.lst (D.int 9 :: nD nb), Ob.lst [D.int 200, D.int 3], Ob.lst (D.int 9 :: (nD nb ++ [D.int 200, D.int 3]))]) (h2.length + 3) = some (nD ([9] ++ (nb ++ [200, 3]))) := by rw [lst_appk, lst_c3, nD_app, nD_app]; rfl
  have bl : ∀ x ∈ [9] ++ (nb ++ [200, 3]), x < 2 ^ 60 := by
    intro x hx
    rcases List.mem_append.mp hx with hx | hx
    · rw [List.mem_singleton.mp hx]; decide
    · rcases List.mem_append.mp hx with hx | hx
      · rw [hnb] at hx; have := numB_lt256 _ x hx; omega
      · simp only [List.mem_cons, List.not_mem_nil, or_false] at hx
        rcases hx with rfl | rfl <;> decide
  have q2 : tk 5 0 (([9] ++ (nb ++ [200, 3])).drop 1) = some (n, nb.length) := by
    rw [List.singleton_append, List.drop_succ_cons, List.drop_zero, hnb]
    exact tk_numB _ (by omega) (.inl rfl)
  refine (w1i (c + 3) _ _ 1 _ _ rfl l6 bl).mono ?_ ?_
  · rintro d h6 ⟨rfl, a, b, q, rfl⟩
    rw [q2] at q
    cases q
    simp [Dd.we_ret, Dd.we_bnd, Dd.we_lift, Dd.we_var, Dd.we_args_nil, Dd.we_args_cons, Dd.we_opN, Dd.we_op1, Dd.we_op2, Dd.we_call, Dd.we_tst, Dd.we_tru, Dd.we_notT, Dd.we_andT, Dd.we_orT, Dd.we_notV, Dd.we_andV, Dd.we_orV, Dd.we_ite, Dd.we_chn, Dd.we_mth, Dd.we_slice, Dd.we_intOf, Dd.nx_next, Dd.nx_ret, Dd.nx_ex, Dd.td_next, Dd.td_cont, Dd.td_brk, Dd.td_ret, Dd.td_ex, Dd.nx_brk, Dd.nx_cont, Dd.wp_skip, Dd.wp_seq, Dd.wp_drop, Dd.wp_ret, Dd.wp_asg, Dd.wp_if, Dd.wp_raise, Dd.wp_set, Dk.wp_aug, Dk.wp_brk, Dk.p_and127, Dk.p_and255, Dk.p_and1, Dk.p_shr8, Dk.p_shr16, Dk.p_shr24, Dk.p_ashr7, Dk.p_ashr8, Dk.p_aadd, Dk.p_asub, Dd.WO, Dk.eq_ss, Dk.ne_ss, Dk.eq_ii, Dk.ne_ii, Dk.isNot_non, Dk.q_add, Dk.q_addt, Dk.q_sub, Dk.q_mod, Dk.q_fdiv, Dk.q_mulr, Dk.q_mull, Dk.q_neg, Dk.q_lt, Dk.q_le, Dk.q_gt, Dk.q_ge, Dk.q_ix0, Dk.q_ix1, Dk.q_ix2, Dk.q_is_t, Dk.q_is_s, Dk.q_is_lt, Dk.q_is_ll, Dk.q_tru, Dk.q_lent, Dk.q_lenr, Dk.q_int, Dk.q_intb, Dk.q_abs, Dk.q_tupr, Dk.q_lstt, Dk.q_lst, Dk.q_tup, Dk.q_oka, Dk.q_oke, Dk.q_okj, Dk.q_app, Dk.q_ext, Dk.q_nm, Dk.q_tp, Dk.q_sa0, Dk.q_sa1, Dk.q_isn, Dk.q_isb, Dk.q_wipe0, Dk.q_wipe1, e1, e2, lstAt_some (lst_all l3 _), nD_len]
    rw [ne_ti rfl (by omega)]
    simp
    exact fin _ (g.trans ⟨_, rfl⟩)
  · rintro c p h2 ⟨rfl, rfl, q⟩
    rw [q2] at q; cases q
theorem t4_ok (c n : Nat) (e2 : e[2]? = some (some (.ref p))) (l : lstAt h p = some (nD (numB n)))
    (fin : ∀ h', Grow h h' → Q .next e h') : WP (t4 (pg.run (c + 4))) e h Q := by
  unfold t4
  have zz : Z = 16777216 := rfl
  obtain ⟨nb, hnb⟩ : ∃ nb, nb = numB n := ⟨_, rfl⟩
  have nn : nb ≠ [] := by rw [hnb]; exact numB_ne n
  have cl := cut_last nn
  have tc : tk 5 0 nb.dropLast = none := by rw [hnb]; exact tk_cut
  rw [← hnb] at l
  simp [Dd.we_ret, Dd.we_bnd, Dd.we_lift, Dd.we_var, Dd.we_args_nil, Dd.we_args_cons, Dd.we_opN, Dd.we_op1, Dd.we_op2, Dd.we_call, Dd.we_tst, Dd.we_tru, Dd.we_notT, Dd.we_andT, Dd.we_orT, Dd.we_notV, Dd.we_andV, Dd.we_orV, Dd.we_ite, Dd.we_chn, Dd.we_mth, Dd.we_slice, Dd.we_intOf, Dd.nx_next, Dd.nx_ret, Dd.nx_ex, Dd.td_next, Dd.td_cont, Dd.td_brk, Dd.td_ret, Dd.td_ex, Dd.nx_brk, Dd.nx_cont, Dd.wp_skip, Dd.wp_seq, Dd.wp_drop, Dd.wp_ret, Dd.wp_asg, Dd.wp_if, Dd.wp_raise, Dd.wp_set, Dk.wp_aug, Dk.wp_brk, Dk.p_and127, Dk.p_and255, Dk.p_and1, Dk.p_shr8, Dk.p_shr16, Dk.p_shr24, Dk.p_ashr7, Dk.p_ashr8, Dk.p_aadd, Dk.p_asub, Dd.WO, Dk.eq_ss, Dk.ne_ss, Dk.eq_ii, Dk.ne_ii, Dk.isNot_non, Dk.q_add, Dk.q_addt, Dk.q_sub, Dk.q_mod, Dk.q_fdiv, Dk.q_mulr, Dk.q_mull, Dk.q_neg, Dk.q_lt, Dk.q_le, Dk.q_gt, Dk.q_ge, Dk.q_ix0, Dk.q_ix1, Dk.q_ix2, Dk.q_is_t, Dk.q_is_s, Dk.q_is_lt, Dk.q_is_ll, Dk.q_tru, Dk.q_lent, Dk.q_lenr, Dk.q_int, Dk.q_intb, Dk.q_abs, Dk.q_tupr, Dk.q_lstt, Dk.q_lst, Dk.q_tup, Dk.q_oka, Dk.q_oke, Dk.q_okj, Dk.q_app, Dk.q_ext, Dk.q_nm, Dk.q_tp, Dk.q_sa0, Dk.q_sa1, Dk.q_isn, Dk.q_isb, Dk.q_wipe0, Dk.q_wipe1, e2, lstAt_some l, nD_len, q_slr, l, cl, newOb]
  refine (w21_0 (c + 2) h.length nb.dropLast 0 0 _ lst_new (fun x hx => by rw [List.dropLast_eq_take, hnb] at hx; have := numB_lt256 _ x (List.mem_of_mem_take hx); omega) tc).mono ?_ fun _ _ _ z => z.elim
  rintro d h2 ⟨rfl, g⟩
  simp [Dd.we_ret, Dd.we_bnd, Dd.we_lift, Dd.we_var, Dd.we_args_nil, Dd.we_args_cons, Dd.we_opN, Dd.we_op1, Dd.we_op2, Dd.we_call, Dd.we_tst, Dd.we_tru, Dd.we_notT, Dd.we_andT, Dd.we_orT, Dd.we_notV, Dd.we_andV, Dd.we_orV, Dd.we_ite, Dd.we_chn, Dd.we_mth, Dd.we_slice, Dd.we_intOf, Dd.nx_next, Dd.nx_ret, Dd.nx_ex, Dd.td_next, Dd.td_cont, Dd.td_brk, Dd.td_ret, Dd.td_ex, Dd.nx_brk, Dd.nx_cont, Dd.wp_skip, Dd.wp_seq, Dd.wp_drop, Dd.wp_ret, Dd.wp_asg, Dd.wp_if, Dd.wp_raise, Dd.wp_set, Dk.wp_aug, Dk.wp_brk, Dk.p_and127, Dk.p_and255, Dk.p_and1, Dk.p_shr8, Dk.p_shr16, Dk.p_shr24, Dk.p_ashr7, Dk.p_ashr8, Dk.p_aadd, Dk.p_asub, Dd.WO, Dk.eq_ss, Dk.ne_ss, Dk.eq_ii, Dk.ne_ii, Dk.isNot_non, Dk.q_add, Dk.q_addt, Dk.q_sub, Dk.q_mod, Dk.q_fdiv, Dk.q_mulr, Dk.q_mull, Dk.q_neg, Dk.q_lt, Dk.q_le, Dk.q_gt, Dk.q_ge, Dk.q_ix0, Dk.q_ix1, Dk.q_ix2, Dk.q_is_t, Dk.q_is_s, Dk.q_is_lt, Dk.q_is_ll, Dk.q_tru, Dk.q_lent, Dk.q_lenr, Dk.q_int, Dk.q_intb, Dk.q_abs, Dk.q_tupr, Dk.q_lstt, Dk.q_lst, Dk.q_tup, Dk.q_oka, Dk.q_oke, Dk.q_okj, Dk.q_app, Dk.q_ext, Dk.q_nm, Dk.q_tp, Dk.q_sa0, Dk.q_sa1, Dk.q_isn, Dk.q_isb, Dk.q_wipe0, Dk.q_wipe1, truD, newOb]
  refine (w21_0 (c + 2) h2.length [128, 0] 0 0 _ lst_new (by decide) (by decide)).mono ?_ fun _ _ _ z => z.elim
  rintro d h3 ⟨rfl, g3⟩
  have bl : below (6 : Int) 9223372036854775808 = true := below_iff.mpr (by decide)
  have l1 : lstAt (h3 ++ [Ob.lst [D.int 255]]) h3.length = some [D.int 255] := lst_new
  simp [Dd.we_ret, Dd.we_bnd, Dd.we_lift, Dd.we_var, Dd.we_args_nil, Dd.we_args_cons, Dd.we_opN, Dd.we_op1, Dd.we_op2, Dd.we_call, Dd.we_tst, Dd.we_tru, Dd.we_notT, Dd.we_andT, Dd.we_orT, Dd.we_notV, Dd.we_andV, Dd.we_orV, Dd.we_ite, Dd.we_chn, Dd.we_mth, Dd.we_slice, Dd.we_intOf, Dd.nx_next, Dd.nx_ret, Dd.nx_ex, Dd.td_next, Dd.td_cont, Dd.td_brk, Dd.td_ret, Dd.td_ex, Dd.nx_brk, Dd.nx_cont, Dd.wp_skip, Dd.wp_seq, Dd.wp_drop, Dd.wp_ret, Dd.wp_asg, Dd.wp_if, Dd.wp_raise, Dd.wp_set, Dk.wp_aug, Dk.wp_brk, Dk.p_and127, Dk.p_and255, Dk.p_and1, Dk.p_shr8, Dk.p_shr16, Dk.p_shr24, Dk.p_ashr7, Dk.p_ashr8, Dk.p_aadd, Dk.p_asub, Dd.WO, Dk.eq_ss, Dk.ne_ss, Dk.eq_ii, Dk.ne_ii, Dk.isNot_non, Dk.q_add, Dk.q_addt, Dk.q_sub, Dk.q_mod, Dk.q_fdiv, Dk.q_mulr, Dk.q_mull, Dk.q_neg, Dk.q_lt, Dk.q_le, Dk.q_gt, Dk.q_ge, Dk.q_ix0, Dk.q_ix1, Dk.q_ix2, Dk.q_is_t, Dk.q_is_s, Dk.q_is_lt, Dk.q_is_ll, Dk.q_tru, Dk.q_lent, Dk.q_lenr, Dk.q_int, Dk.q_intb, Dk.q_abs, Dk.q_tupr, Dk.q_lstt, Dk.q_lst, Dk.q_tup, Dk.q_oka, Dk.q_oke, Dk.q_okj, Dk.q_app, Dk.q_ext, Dk.q_nm, Dk.q_tp, Dk.q_sa0, Dk.q_sa1, Dk.q_isn, Dk.q_isb, Dk.q_wipe0, Dk.q_wipe1, truD, newOb, q_mulr', l1, bl]
  refine (w21_0 (c + 2) (h3.length + 1) [255, 255, 255, 255, 255, 255] 0 0 _ (by rw [lst_appk]; rfl) (by decide) (by decide)).mono ?_ fun _ _ _ z => z.elim
  rintro d h4 ⟨rfl, g4⟩
  simp [Dd.we_ret, Dd.we_bnd, Dd.we_lift, Dd.we_var, Dd.we_args_nil, Dd.we_args_cons, Dd.we_opN, Dd.we_op1, Dd.we_op2, Dd.we_call, Dd.we_tst, Dd.we_tru, Dd.we_notT, Dd.we_andT, Dd.we_orT, Dd.we_notV, Dd.we_andV, Dd.we_orV, Dd.we_ite, Dd.we_chn, Dd.we_mth, Dd.we_slice, Dd.we_intOf, Dd.nx_next, Dd.nx_ret, Dd.nx_ex, Dd.td_next, Dd.td_cont, Dd.td_brk, Dd.td_ret, Dd.td_ex, Dd.nx_brk, Dd.nx_cont, Dd.wp_skip, Dd.wp_seq, Dd.wp_drop, Dd.wp_ret, Dd.wp_asg, Dd.wp_if, Dd.wp_raise, Dd.wp_set, Dk.wp_aug, Dk.wp_brk, Dk.p_and127, Dk.p_and255, Dk.p_and1, Dk.p_shr8, Dk.p_shr16, Dk.p_shr24, Dk.p_ashr7, Dk.p_ashr8, Dk.p_aadd, Dk.p_asub, Dd.WO, Dk.eq_ss, Dk.ne_ss, Dk.eq_ii, Dk.ne_ii, Dk.isNot_non, Dk.q_add, Dk.q_addt, Dk.q_sub, Dk.q_mod, Dk.q_fdiv, Dk.q_mulr, Dk.q_mull, Dk.q_neg, Dk.q_lt, Dk.q_le, Dk.q_gt, Dk.q_ge, Dk.q_ix0, Dk.q_ix1, Dk.q_ix2, Dk.q_is_t, Dk.q_is_s, Dk.q_is_lt, Dk.q_is_ll, Dk.q_tru, Dk.q_lent, Dk.q_lenr, Dk.q_int, Dk.q_intb, Dk.q_abs, Dk.q_tupr, Dk.q_lstt, Dk.q_lst, Dk.q_tup, Dk.q_oka, Dk.q_oke, Dk.q_okj, Dk.q_app, Dk.q_ext, Dk.q_nm, Dk.q_tp, Dk.q_sa0, Dk.q_sa1, Dk.q_isn, Dk.q_isb, Dk.q_wipe0, Dk.q_wipe1, truD, newOb]
  exact fin _ ((Grow.trans ⟨_, rfl⟩ g).trans ((Grow.trans ⟨_, rfl⟩ g3).trans (Grow.trans ⟨_, rfl⟩ g4)))
theorem t6_ok (c : Nat) (v : Int) (e3 : e[3]? = some (some (.int v)))
    (fin : ∀ h', Grow h h' → Q .next e h') : WP (t6 (pg.run (c + 4))) e h Q := by
  unfold t6
  have zz : Z = 16777216 := rfl
  simp [Dd.we_ret, Dd.we_bnd, Dd.we_lift, Dd.we_var, Dd.we_args_nil, Dd.we_args_cons, Dd.we_opN, Dd.we_op1, Dd.we_op2, Dd.we_call, Dd.we_tst, Dd.we_tru, Dd.we_notT, Dd.we_andT, Dd.we_orT, Dd.we_notV, Dd.we_andV, Dd.we_orV, Dd.we_ite, Dd.we_chn, Dd.we_mth, Dd.we_slice, Dd.we_intOf, Dd.nx_next, Dd.nx_ret, Dd.nx_ex, Dd.td_next, Dd.td_cont, Dd.td_brk, Dd.td_ret, Dd.td_ex, Dd.nx_brk, Dd.nx_cont, Dd.wp_skip, Dd.wp_seq, Dd.wp_drop, Dd.wp_ret, Dd.wp_asg, Dd.wp_if, Dd.wp_raise, Dd.wp_set, Dk.wp_aug, Dk.wp_brk, Dk.p_and127, Dk.p_and255, Dk.p_and1, Dk.p_shr8, Dk.p_shr16, Dk.p_shr24, Dk.p_ashr7, Dk.p_ashr8, Dk.p_aadd, Dk.p_asub, Dd.WO, Dk.eq_ss, Dk.ne_ss, Dk.eq_ii, Dk.ne_ii, Dk.isNot_non, Dk.q_add, Dk.q_addt, Dk.q_sub, Dk.q_mod, Dk.q_fdiv, Dk.q_mulr, Dk.q_mull, Dk.q_neg, Dk.q_lt, Dk.q_le, Dk.q_gt, Dk.q_ge, Dk.q_ix0, Dk.q_ix1, Dk.q_ix2, Dk.q_is_t, Dk.q_is_s, Dk.q_is_lt, Dk.q_is_ll, Dk.q_tru, Dk.q_lent, Dk.q_lenr, Dk.q_int, Dk.q_intb, Dk.q_abs, Dk.q_tupr, Dk.q_lstt, Dk.q_lst, Dk.q_tup, Dk.q_oka, Dk.q_oke, Dk.q_okj, Dk.q_app, Dk.q_ext, Dk.q_nm, Dk.q_tp, Dk.q_sa0, Dk.q_sa1, Dk.q_isn, Dk.q_isb, Dk.q_wipe0, Dk.q_wipe1, e3]
  refine (w2 (c + 3) v h).mono ?_ fun _ _ _ z => z.elim
  rintro d h2 ⟨rfl, rfl⟩
  refine (w16 (c + 3) v _).mono ?_ fun _ _ _ z => z.elim
  rintro d h3 ⟨rfl, rfl⟩
  obtain ⟨ws, hws⟩ : ∃ ws, ws = wordB (w32 v) := ⟨_, rfl⟩
  have wl : ws.length = 4 := by rw [hws]; rfl
  have wb : ∀ x ∈ ws, x < 256 := by
    intro x hx
    have : w32 v < 4294967296 := by unfold w32; omega
    rw [hws] at hx
    simp only [wordB, List.mem_cons, List.not_mem_nil, or_false] at hx
    rcases hx with rfl | rfl | rfl | rfl <;> omega
  have wv : wordV (ws ++ [1]) 0 = w32 v := by
    have : w32 v < 4294967296 := by unfold w32; omega
    rw [hws]
    simp only [wordB, wordV, List.cons_append, List.nil_append, List.getD_cons_zero, List.getD_cons_succ]
    omega
  rw [← hws]
  have hv : ((w32 v : Nat) : Int) = v % 4294967296 := by unfold w32; omega
  have a1 : lstAt (h ++ [Ob.lst (nD ws)] ++ [Ob.lst (nD ws)]) h.length = some (nD ws) := (Grow.one _ _).lst lst_new
  have a2 : lstAt (h ++ [Ob.lst (nD ws)] ++ [Ob.lst (nD ws)]) (h ++ [Ob.lst (nD ws)]).length = some (nD ws) := lst_new
  rw [ne_nD a1 a2]
  simp [Dd.we_ret, Dd.we_bnd, Dd.we_lift, Dd.we_var, Dd.we_args_nil, Dd.we_args_cons, Dd.we_opN, Dd.we_op1, Dd.we_op2, Dd.we_call, Dd.we_tst, Dd.we_tru, Dd.we_notT, Dd.we_andT, Dd.we_orT, Dd.we_notV, Dd.we_andV, Dd.we_orV, Dd.we_ite, Dd.we_chn, Dd.we_mth, Dd.we_slice, Dd.we_intOf, Dd.nx_next, Dd.nx_ret, Dd.nx_ex, Dd.td_next, Dd.td_cont, Dd.td_brk, Dd.td_ret, Dd.td_ex, Dd.nx_brk, Dd.nx_cont, Dd.wp_skip, Dd.wp_seq, Dd.wp_drop, Dd.wp_ret, Dd.wp_asg, Dd.wp_if, Dd.wp_raise, Dd.wp_set, Dk.wp_aug, Dk.wp_brk, Dk.p_and127, Dk.p_and255, Dk.p_and1, Dk.p_shr8, Dk.p_shr16, Dk.p_shr24, Dk.p_ashr7, Dk.p_ashr8, Dk.p_aadd, Dk.p_asub, Dd.WO, Dk.eq_ss, Dk.ne_ss, Dk.eq_ii, Dk.ne_ii, Dk.isNot_non, Dk.q_add, Dk.q_addt, Dk.q_sub, Dk.q_mod, Dk.q_fdiv, Dk.q_mulr, Dk.q_mull, Dk.q_neg, Dk.q_lt, Dk.q_le, Dk.q_gt, Dk.q_ge, Dk.q_ix0, Dk.q_ix1, Dk.q_ix2, Dk.q_is_t, Dk.q_is_s, Dk.q_is_lt, Dk.q_is_ll, Dk.q_tru, Dk.q_lent, Dk.q_lenr, Dk.q_int, Dk.q_intb, Dk.q_abs, Dk.q_tupr, Dk.q_lstt, Dk.q_lst, Dk.q_tup, Dk.q_oka, Dk.q_oke, Dk.q_okj, Dk.q_app, Dk.q_ext, Dk.q_nm, Dk.q_tp, Dk.q_sa0, Dk.q_sa1, Dk.q_isn, Dk.q_isb, Dk.q_wipe0, Dk.q_wipe1, e3]
  refine (w16 (c + 3) v _).mono ?_ fun _ _ _ z => z.elim
  rintro d h3 ⟨rfl, rfl⟩
  rw [← hws]
  have z1 : ws.length + 1 ≤ Z := by omega
  obtain ⟨h4, hh4⟩ : ∃ h4, h4 = h ++ [Ob.lst (nD ws), Ob.lst (nD ws)] := ⟨_, rfl⟩
  rw [← hh4]
  have a3 : lstAt (h4 ++ [Ob.lst (nD ws), Ob.lst [D.int 1]]) h4.length = some (nD ws) := by rw [lst_appz, lst_c0]
  have g4 : Grow h h4 := by rw [hh4]; exact ⟨_, rfl⟩
  simp [Dd.we_ret, Dd.we_bnd, Dd.we_lift, Dd.we_var, Dd.we_args_nil, Dd.we_args_cons, Dd.we_opN, Dd.we_op1, Dd.we_op2, Dd.we_call, Dd.we_tst, Dd.we_tru, Dd.we_notT, Dd.we_andT, Dd.we_orT, Dd.we_notV, Dd.we_andV, Dd.we_orV, Dd.we_ite, Dd.we_chn, Dd.we_mth, Dd.we_slice, Dd.we_intOf, Dd.nx_next, Dd.nx_ret, Dd.nx_ex, Dd.td_next, Dd.td_cont, Dd.td_brk, Dd.td_ret, Dd.td_ex, Dd.nx_brk, Dd.nx_cont, Dd.wp_skip, Dd.wp_seq, Dd.wp_drop, Dd.wp_ret, Dd.wp_asg, Dd.wp_if, Dd.wp_raise, Dd.wp_set, Dk.wp_aug, Dk.wp_brk, Dk.p_and127, Dk.p_and255, Dk.p_and1, Dk.p_shr8, Dk.p_shr16, Dk.p_shr24, Dk.p_ashr7, Dk.p_ashr8, Dk.p_aadd, Dk.p_asub, Dd.WO, Dk.eq_ss, Dk.ne_ss, Dk.eq_ii, Dk.ne_ii, Dk.isNot_non, Dk.q_add, Dk.q_addt, Dk.q_sub, Dk.q_mod, Dk.q_fdiv, Dk.q_mulr, Dk.q_mull, Dk.q_neg, Dk.q_lt, Dk.q_le, Dk.q_gt, Dk.q_ge, Dk.q_ix0, Dk.q_ix1, Dk.q_ix2, Dk.q_is_t, Dk.q_is_s, Dk.q_is_lt, Dk.q_is_ll, Dk.q_tru, Dk.q_lent, Dk.q_lenr, Dk.q_int, Dk.q_intb, Dk.q_abs, Dk.q_tupr, Dk.q_lstt, Dk.q_lst, Dk.q_tup, Dk.q_oka, Dk.q_oke, Dk.q_okj, Dk.q_app, Dk.q_ext, Dk.q_nm, Dk.q_tp, Dk.q_sa0, Dk.q_sa1, Dk.q_isn, Dk.q_isb, Dk.q_wipe0, Dk.q_wipe1, e3, newOb, q_addr, lst_appk, lst_appz, lst_c0, lst_c1, lst_c2, nD_len, z1]
  have l6 : lstAt (h4 ++ [Ob.lst (nD ws), Ob.lst [D.int 1], Ob.lst (nD ws ++ [D.int 1])]) (h4.length + 2) = some (nD (ws ++ [1])) := by rw [lst_appk, lst_c2, nD_app]; rfl
  refine (w3 (c + 3) _ (ws ++ [1]) 0 _ l6 (fun x hx => ?_)).mono ?_ ?_
  · rcases List.mem_append.mp hx with hx | hx
    · exact wb x hx
    · rw [List.mem_singleton.mp hx]; decide
  · rintro d h6 ⟨rfl, -, rfl⟩
    simp [Dd.we_ret, Dd.we_bnd, Dd.we_lift, Dd.we_var, Dd.we_args_nil, Dd.we_args_cons, Dd.we_opN, Dd.we_op1, Dd.we_op2, Dd.we_call, Dd.we_tst, Dd.we_tru, Dd.we_notT, Dd.we_andT, Dd.we_orT, Dd.we_notV, Dd.we_andV, Dd.we_orV, Dd.we_ite, Dd.we_chn, Dd.we_mth, Dd.we_slice, Dd.we_intOf, Dd.nx_next, Dd.nx_ret, Dd.nx_ex, Dd.td_next, Dd.td_cont, Dd.td_brk, Dd.td_ret, Dd.td_ex, Dd.nx_brk, Dd.nx_cont, Dd.wp_skip, Dd.wp_seq, Dd.wp_drop, Dd.wp_ret, Dd.wp_asg, Dd.wp_if, Dd.wp_raise, Dd.wp_set, Dk.wp_aug, Dk.wp_brk, Dk.p_and127, Dk.p_and255, Dk.p_and1, Dk.p_shr8, Dk.p_shr16, Dk.p_shr24, Dk.p_ashr7, Dk.p_ashr8, Dk.p_aadd, Dk.p_asub, Dd.WO, Dk.eq_ss, Dk.ne_ss, Dk.eq_ii, Dk.ne_ii, Dk.isNot_non, Dk.q_add, Dk.q_addt, Dk.q_sub, Dk.q_mod, Dk.q_fdiv, Dk.q_mulr, Dk.q_mull, Dk.q_neg, Dk.q_lt, Dk.q_le, Dk.q_gt, Dk.q_ge, Dk.q_ix0, Dk.q_ix1, Dk.q_ix2, Dk.q_is_t, Dk.q_is_s, Dk.q_is_lt, Dk.q_is_ll, Dk.q_tru, Dk.q_lent, Dk.q_lenr, Dk.q_int, Dk.q_intb, Dk.q_abs, Dk.q_tupr, Dk.q_lstt, Dk.q_lst, Dk.q_tup, Dk.q_oka, Dk.q_oke, Dk.q_okj, Dk.q_app, Dk.q_ext, Dk.q_nm, Dk.q_tp, Dk.q_sa0, Dk.q_sa1, Dk.q_isn, Dk.q_isb, Dk.q_wipe0, Dk.q_wipe1, e3]
    rw [ne_ti (by rw [wv]; exact hv) (by decide)]
    simp
    exact fin _ (g4.trans ⟨_, rfl⟩)
  · rintro c p h2 ⟨-, -, q⟩
    rw [List.length_append, wl] at q
    simp at q
theorem t9_ok (c : Nat) (v : Int) (e4 : e[4]? = some (some (.int v))) (e5 : e[5]? = some (some (.int (foldI v))))
    (fin : ∀ h', Grow h h' → Q .next e h') : WP (t9 (pg.run (c + 4))) e h Q := by
  unfold t9
  have zz : Z = 16777216 := rfl
  simp [Dd.we_ret, Dd.we_bnd, Dd.we_lift, Dd.we_var, Dd.we_args_nil, Dd.we_args_cons, Dd.we_opN, Dd.we_op1, Dd.we_op2, Dd.we_call, Dd.we_tst, Dd.we_tru, Dd.we_notT, Dd.we_andT, Dd.we_orT, Dd.we_notV, Dd.we_andV, Dd.we_orV, Dd.we_ite, Dd.we_chn, Dd.we_mth, Dd.we_slice, Dd.we_intOf, Dd.nx_next, Dd.nx_ret, Dd.nx_ex, Dd.td_next, Dd.td_cont, Dd.td_brk, Dd.td_ret, Dd.td_ex, Dd.nx_brk, Dd.nx_cont, Dd.wp_skip, Dd.wp_seq, Dd.wp_drop, Dd.wp_ret, Dd.wp_asg, Dd.wp_if, Dd.wp_raise, Dd.wp_set, Dk.wp_aug, Dk.wp_brk, Dk.p_and127, Dk.p_and255, Dk.p_and1, Dk.p_shr8, Dk.p_shr16, Dk.p_shr24, Dk.p_ashr7, Dk.p_ashr8, Dk.p_aadd, Dk.p_asub, Dd.WO, Dk.eq_ss, Dk.ne_ss, Dk.eq_ii, Dk.ne_ii, Dk.isNot_non, Dk.q_add, Dk.q_addt, Dk.q_sub, Dk.q_mod, Dk.q_fdiv, Dk.q_mulr, Dk.q_mull, Dk.q_neg, Dk.q_lt, Dk.q_le, Dk.q_gt, Dk.q_ge, Dk.q_ix0, Dk.q_ix1, Dk.q_ix2, Dk.q_is_t, Dk.q_is_s, Dk.q_is_lt, Dk.q_is_ll, Dk.q_tru, Dk.q_lent, Dk.q_lenr, Dk.q_int, Dk.q_intb, Dk.q_abs, Dk.q_tupr, Dk.q_lstt, Dk.q_lst, Dk.q_tup, Dk.q_oka, Dk.q_oke, Dk.q_okj, Dk.q_app, Dk.q_ext, Dk.q_nm, Dk.q_tp, Dk.q_sa0, Dk.q_sa1, Dk.q_isn, Dk.q_isb, Dk.q_wipe0, Dk.q_wipe1, e4, e5]
  refine (w4 (c + 3) v h).mono ?_ fun _ _ _ z => z.elim
  rintro d h2 ⟨rfl, rfl⟩
  simp [Dd.we_ret, Dd.we_bnd, Dd.we_lift, Dd.we_var, Dd.we_args_nil, Dd.we_args_cons, Dd.we_opN, Dd.we_op1, Dd.we_op2, Dd.we_call, Dd.we_tst, Dd.we_tru, Dd.we_notT, Dd.we_andT, Dd.we_orT, Dd.we_notV, Dd.we_andV, Dd.we_orV, Dd.we_ite, Dd.we_chn, Dd.we_mth, Dd.we_slice, Dd.we_intOf, Dd.nx_next, Dd.nx_ret, Dd.nx_ex, Dd.td_next, Dd.td_cont, Dd.td_brk, Dd.td_ret, Dd.td_ex, Dd.nx_brk, Dd.nx_cont, Dd.wp_skip, Dd.wp_seq, Dd.wp_drop, Dd.wp_ret, Dd.wp_asg, Dd.wp_if, Dd.wp_raise, Dd.wp_set, Dk.wp_aug, Dk.wp_brk, Dk.p_and127, Dk.p_and255, Dk.p_and1, Dk.p_shr8, Dk.p_shr16, Dk.p_shr24, Dk.p_ashr7, Dk.p_ashr8, Dk.p_aadd, Dk.p_asub, Dd.WO, Dk.eq_ss, Dk.ne_ss, Dk.eq_ii, Dk.ne_ii, Dk.isNot_non, Dk.q_add, Dk.q_addt, Dk.q_sub, Dk.q_mod, Dk.q_fdiv, Dk.q_mulr, Dk.q_mull, Dk.q_neg, Dk.q_lt, Dk.q_le, Dk.q_gt, Dk.q_ge, Dk.q_ix0, Dk.q_ix1, Dk.q_ix2, Dk.q_is_t, Dk.q_is_s, Dk.q_is_lt, Dk.q_is_ll, Dk.q_tru, Dk.q_lent, Dk.q_lenr, Dk.q_int, Dk.q_intb, Dk.q_abs, Dk.q_tupr, Dk.q_lstt, Dk.q_lst, Dk.q_tup, Dk.q_oka, Dk.q_oke, Dk.q_okj, Dk.q_app, Dk.q_ext, Dk.q_nm, Dk.q_tp, Dk.q_sa0, Dk.q_sa1, Dk.q_isn, Dk.q_isb, Dk.q_wipe0, Dk.q_wipe1, e4, e5]
  refine (w5 (c + 3) (foldI v) _).mono ?_ fun _ _ _ z => z.elim
  rintro d h3 ⟨rfl, rfl⟩
  rw [unf_fold]
  simp [Dd.we_ret, Dd.we_bnd, Dd.we_lift, Dd.we_var, Dd.we_args_nil, Dd.we_args_cons, Dd.we_opN, Dd.we_op1, Dd.we_op2, Dd.we_call, Dd.we_tst, Dd.we_tru, Dd.we_notT, Dd.we_andT, Dd.we_orT, Dd.we_notV, Dd.we_andV, Dd.we_orV, Dd.we_ite, Dd.we_chn, Dd.we_mth, Dd.we_slice, Dd.we_intOf, Dd.nx_next, Dd.nx_ret, Dd.nx_ex, Dd.td_next, Dd.td_cont, Dd.td_brk, Dd.td_ret, Dd.td_ex, Dd.nx_brk, Dd.nx_cont, Dd.wp_skip, Dd.wp_seq, Dd.wp_drop, Dd.wp_ret, Dd.wp_asg, Dd.wp_if, Dd.wp_raise, Dd.wp_set, Dk.wp_aug, Dk.wp_brk, Dk.p_and127, Dk.p_and255, Dk.p_and1, Dk.p_shr8, Dk.p_shr16, Dk.p_shr24, Dk.p_ashr7, Dk.p_ashr8, Dk.p_aadd, Dk.p_asub, Dd.WO, Dk.eq_ss, Dk.ne_ss, Dk.eq_ii, Dk.ne_ii, Dk.isNot_non, Dk.q_add, Dk.q_addt, Dk.q_sub, Dk.q_mod, Dk.q_fdiv, Dk.q_mulr, Dk.q_mull, Dk.q_neg, Dk.q_lt, Dk.q_le, Dk.q_gt, Dk.q_ge, Dk.q_ix0, Dk.q_ix1, Dk.q_ix2, Dk.q_is_t, Dk.q_is_s, Dk.q_is_lt, Dk.q_is_ll, Dk.q_tru, Dk.q_lent, Dk.q_lenr, Dk.q_int, Dk.q_intb, Dk.q_abs, Dk.q_tupr, Dk.q_lstt, Dk.q_lst, Dk.q_tup, Dk.q_oka, Dk.q_oke, Dk.q_okj, Dk.q_app, Dk.q_ext, Dk.q_nm, Dk.q_tp, Dk.q_sa0, Dk.q_sa1, Dk.q_isn, Dk.q_isb, Dk.q_wipe0, Dk.q_wipe1, e4, e5, newOb]
  refine (w21_3 (c + 2) h3.length [1, 2, 3] 0 0 _ lst_new (by decide) (by decide)).mono ?_ fun _ _ _ z => z.elim
  rintro d h4 ⟨rfl, g4⟩
  simp [Dd.we_ret, Dd.we_bnd, Dd.we_lift, Dd.we_var, Dd.we_args_nil, Dd.we_args_cons, Dd.we_opN, Dd.we_op1, Dd.we_op2, Dd.we_call, Dd.we_tst, Dd.we_tru, Dd.we_notT, Dd.we_andT, Dd.we_orT, Dd.we_notV, Dd.we_andV, Dd.we_orV, Dd.we_ite, Dd.we_chn, Dd.we_mth, Dd.we_slice, Dd.we_intOf, Dd.nx_next, Dd.nx_ret, Dd.nx_ex, Dd.td_next, Dd.td_cont, Dd.td_brk, Dd.td_ret, Dd.td_ex, Dd.nx_brk, Dd.nx_cont, Dd.wp_skip, Dd.wp_seq, Dd.wp_drop, Dd.wp_ret, Dd.wp_asg, Dd.wp_if, Dd.wp_raise, Dd.wp_set, Dk.wp_aug, Dk.wp_brk, Dk.p_and127, Dk.p_and255, Dk.p_and1, Dk.p_shr8, Dk.p_shr16, Dk.p_shr24, Dk.p_ashr7, Dk.p_ashr8, Dk.p_aadd, Dk.p_asub, Dd.WO, Dk.eq_ss, Dk.ne_ss, Dk.eq_ii, Dk.ne_ii, Dk.isNot_non, Dk.q_add, Dk.q_addt, Dk.q_sub, Dk.q_mod, Dk.q_fdiv, Dk.q_mulr, Dk.q_mull, Dk.q_neg, Dk.q_lt, Dk.q_le, Dk.q_gt, Dk.q_ge, Dk.q_ix0, Dk.q_ix1, Dk.q_ix2, Dk.q_is_t, Dk.q_is_s, Dk.q_is_lt, Dk.q_is_ll, Dk.q_tru, Dk.q_lent, Dk.q_lenr, Dk.q_int, Dk.q_intb, Dk.q_abs, Dk.q_tupr, Dk.q_lstt, Dk.q_lst, Dk.q_tup, Dk.q_oka, Dk.q_oke, Dk.q_okj, Dk.q_app, Dk.q_ext, Dk.q_nm, Dk.q_tp, Dk.q_sa0, Dk.q_sa1, Dk.q_isn, Dk.q_isb, Dk.q_wipe0, Dk.q_wipe1, truD, newOb]
  exact fin _ (Grow.trans ⟨_, rfl⟩ g4)
end
end Dk

set_option Elab.async false
set_option linter.all false
set_option maxRecDepth 100000
set_option maxHeartbeats 4000000
namespace Dk
open PySem PySem.Spec PyProof.Rows L2 Dd

theorem fold_pick (v : Int) (h : DH) : ∃ u, ixD (.ref h.length) (.int (if decide (v < 0) = true then 1 else 0)) (h ++ [.lst [.int (2 * v), .int (-(2 * v) - 1)]]) = some (u, h ++ [.lst [.int (2 * v), .int (-(2 * v) - 1)]]) ∧ u = .int (foldI v) := by
  rw [q_ixr, lstAt_some lst_new]
  dsimp only
  unfold foldI
  by_cases c : v < 0
  · have q : L2.atI [D.int (2 * v), .int (-(2 * v) - 1)] 1 = some (.int (-(2 * v) - 1)) := atI_of (k := 1) rfl rfl
    rw [if_pos (decide_eq_true c), if_pos c, q]
    exact ⟨_, rfl, by congr 1; omega⟩
  · have q : L2.atI [D.int (2 * v), .int (-(2 * v) - 1)] 0 = some (.int (2 * v)) := atI_of (k := 0) rfl rfl
    rw [if_neg (by simp; omega), if_neg c, q]
    exact ⟨_, rfl, rfl⟩
theorem main : ∀ ns : List Int, ns.length ≤ 63 → ∃ h', pg.run 40 23 [.frz ns] [] = some (.ok (.bl true), h') := by
  intro ns hl
  have w : WC (pg.run (39 + 1)) 23 [.frz ns] [] (fun d _ => d = .bl true) (fun _ _ _ => False) := by
    refine wc_of (f := f23) rfl e23 rfl ?_
    rw [t_eq]
    show WP (tR1 (pg.run (35 + 4))) [some (.frz ns), none, none, none, none, none, none, none, none, none, none, none, none, none, none] [] LawQ
    unfold tR1 t1
    rw [wp_seq]
    simp [Dd.we_ret, Dd.we_bnd, Dd.we_lift, Dd.we_var, Dd.we_args_nil, Dd.we_args_cons, Dd.we_opN, Dd.we_op1, Dd.we_op2, Dd.we_call, Dd.we_tst, Dd.we_tru, Dd.we_notT, Dd.we_andT, Dd.we_orT, Dd.we_notV, Dd.we_andV, Dd.we_orV, Dd.we_ite, Dd.we_chn, Dd.we_mth, Dd.we_slice, Dd.we_intOf, Dd.nx_next, Dd.nx_ret, Dd.nx_ex, Dd.td_next, Dd.td_cont, Dd.td_brk, Dd.td_ret, Dd.td_ex, Dd.nx_brk, Dd.nx_cont, Dd.wp_skip, Dd.wp_seq, Dd.wp_drop, Dd.wp_ret, Dd.wp_asg, Dd.wp_if, Dd.wp_raise, Dd.wp_set, Dk.wp_aug, Dk.wp_brk, Dk.p_and127, Dk.p_and255, Dk.p_and1, Dk.p_shr8, Dk.p_shr16, Dk.p_shr24, Dk.p_ashr7, Dk.p_ashr8, Dk.p_aadd, Dk.p_asub, Dd.WO, Dk.eq_ss, Dk.ne_ss, Dk.eq_ii, Dk.ne_ii, Dk.isNot_non, Dk.q_add, Dk.q_addt, Dk.q_sub, Dk.q_mod, Dk.q_fdiv, Dk.q_mulr, Dk.q_mull, Dk.q_neg, Dk.q_lt, Dk.q_le, Dk.q_gt, Dk.q_ge, Dk.q_ix0, Dk.q_ix1, Dk.q_ix2, Dk.q_is_t, Dk.q_is_s, Dk.q_is_lt, Dk.q_is_ll, Dk.q_tru, Dk.q_lent, Dk.q_lenr, Dk.q_int, Dk.q_intb, Dk.q_abs, Dk.q_tupr, Dk.q_lstt, Dk.q_lst, Dk.q_tup, Dk.q_oka, Dk.q_oke, Dk.q_okj, Dk.q_app, Dk.q_ext, Dk.q_nm, Dk.q_tp, Dk.q_sa0, Dk.q_sa1, Dk.q_isn, Dk.q_isb, Dk.q_wipe0, Dk.q_wipe1]
    refine (w13i (35 + 3) ns 0 _ _ rfl).mono ?_ fun _ _ _ z => z.elim
    rintro d h2 ⟨rfl, rfl⟩
    obtain ⟨a, ha⟩ : ∃ a, a = (cellN ns 0).natAbs := ⟨_, rfl⟩
    obtain ⟨n, hn⟩ : ∃ n, n = a % 34359738368 := ⟨_, rfl⟩
    have hn2 : n < 34359738368 := by omega
    have hc : (a : Int) % 34359738368 = (n : Int) := by omega
    simp [Dd.we_ret, Dd.we_bnd, Dd.we_lift, Dd.we_var, Dd.we_args_nil, Dd.we_args_cons, Dd.we_opN, Dd.we_op1, Dd.we_op2, Dd.we_call, Dd.we_tst, Dd.we_tru, Dd.we_notT, Dd.we_andT, Dd.we_orT, Dd.we_notV, Dd.we_andV, Dd.we_orV, Dd.we_ite, Dd.we_chn, Dd.we_mth, Dd.we_slice, Dd.we_intOf, Dd.nx_next, Dd.nx_ret, Dd.nx_ex, Dd.td_next, Dd.td_cont, Dd.td_brk, Dd.td_ret, Dd.td_ex, Dd.nx_brk, Dd.nx_cont, Dd.wp_skip, Dd.wp_seq, Dd.wp_drop, Dd.wp_ret, Dd.wp_asg, Dd.wp_if, Dd.wp_raise, Dd.wp_set, Dk.wp_aug, Dk.wp_brk, Dk.p_and127, Dk.p_and255, Dk.p_and1, Dk.p_shr8, Dk.p_shr16, Dk.p_shr24, Dk.p_ashr7, Dk.p_ashr8, Dk.p_aadd, Dk.p_asub, Dd.WO, Dk.eq_ss, Dk.ne_ss, Dk.eq_ii, Dk.ne_ii, Dk.isNot_non, Dk.q_add, Dk.q_addt, Dk.q_sub, Dk.q_mod, Dk.q_fdiv, Dk.q_mulr, Dk.q_mull, Dk.q_neg, Dk.q_lt, Dk.q_le, Dk.q_gt, Dk.q_ge, Dk.q_ix0, Dk.q_ix1, Dk.q_ix2, Dk.q_is_t, Dk.q_is_s, Dk.q_is_lt, Dk.q_is_ll, Dk.q_tru, Dk.q_lent, Dk.q_lenr, Dk.q_int, Dk.q_intb, Dk.q_abs, Dk.q_tupr, Dk.q_lstt, Dk.q_lst, Dk.q_tup, Dk.q_oka, Dk.q_oke, Dk.q_okj, Dk.q_app, Dk.q_ext, Dk.q_nm, Dk.q_tp, Dk.q_sa0, Dk.q_sa1, Dk.q_isn, Dk.q_isb, Dk.q_wipe0, Dk.q_wipe1, abs_eq, ← ha, hc]
    unfold tR2 t2
    rw [wp_seq]
    simp [Dd.we_ret, Dd.we_bnd, Dd.we_lift, Dd.we_var, Dd.we_args_nil, Dd.we_args_cons, Dd.we_opN, Dd.we_op1, Dd.we_op2, Dd.we_call, Dd.we_tst, Dd.we_tru, Dd.we_notT, Dd.we_andT, Dd.we_orT, Dd.we_notV, Dd.we_andV, Dd.we_orV, Dd.we_ite, Dd.we_chn, Dd.we_mth, Dd.we_slice, Dd.we_intOf, Dd.nx_next, Dd.nx_ret, Dd.nx_ex, Dd.td_next, Dd.td_cont, Dd.td_brk, Dd.td_ret, Dd.td_ex, Dd.nx_brk, Dd.nx_cont, Dd.wp_skip, Dd.wp_seq, Dd.wp_drop, Dd.wp_ret, Dd.wp_asg, Dd.wp_if, Dd.wp_raise, Dd.wp_set, Dk.wp_aug, Dk.wp_brk, Dk.p_and127, Dk.p_and255, Dk.p_and1, Dk.p_shr8, Dk.p_shr16, Dk.p_shr24, Dk.p_ashr7, Dk.p_ashr8, Dk.p_aadd, Dk.p_asub, Dd.WO, Dk.eq_ss, Dk.ne_ss, Dk.eq_ii, Dk.ne_ii, Dk.isNot_non, Dk.q_add, Dk.q_addt, Dk.q_sub, Dk.q_mod, Dk.q_fdiv, Dk.q_mulr, Dk.q_mull, Dk.q_neg, Dk.q_lt, Dk.q_le, Dk.q_gt, Dk.q_ge, Dk.q_ix0, Dk.q_ix1, Dk.q_ix2, Dk.q_is_t, Dk.q_is_s, Dk.q_is_lt, Dk.q_is_ll, Dk.q_tru, Dk.q_lent, Dk.q_lenr, Dk.q_int, Dk.q_intb, Dk.q_abs, Dk.q_tupr, Dk.q_lstt, Dk.q_lst, Dk.q_tup, Dk.q_oka, Dk.q_oke, Dk.q_okj, Dk.q_app, Dk.q_ext, Dk.q_nm, Dk.q_tp, Dk.q_sa0, Dk.q_sa1, Dk.q_isn, Dk.q_isb, Dk.q_wipe0, Dk.q_wipe1]
    refine (w15 (35 + 3) n _ hn2).mono ?_ fun _ _ _ z => z.elim
    rintro d h3 ⟨p, rfl, -, g3, l3⟩
    try simp [Dd.we_ret, Dd.we_bnd, Dd.we_lift, Dd.we_var, Dd.we_args_nil, Dd.we_args_cons, Dd.we_opN, Dd.we_op1, Dd.we_op2, Dd.we_call, Dd.we_tst, Dd.we_tru, Dd.we_notT, Dd.we_andT, Dd.we_orT, Dd.we_notV, Dd.we_andV, Dd.we_orV, Dd.we_ite, Dd.we_chn, Dd.we_mth, Dd.we_slice, Dd.we_intOf, Dd.nx_next, Dd.nx_ret, Dd.nx_ex, Dd.td_next, Dd.td_cont, Dd.td_brk, Dd.td_ret, Dd.td_ex, Dd.nx_brk, Dd.nx_cont, Dd.wp_skip, Dd.wp_seq, Dd.wp_drop, Dd.wp_ret, Dd.wp_asg, Dd.wp_if, Dd.wp_raise, Dd.wp_set, Dk.wp_aug, Dk.wp_brk, Dk.p_and127, Dk.p_and255, Dk.p_and1, Dk.p_shr8, Dk.p_shr16, Dk.p_shr24, Dk.p_ashr7, Dk.p_ashr8, Dk.p_aadd, Dk.p_asub, Dd.WO, Dk.eq_ss, Dk.ne_ss, Dk.eq_ii, Dk.ne_ii, Dk.isNot_non, Dk.q_add, Dk.q_addt, Dk.q_sub, Dk.q_mod, Dk.q_fdiv, Dk.q_mulr, Dk.q_mull, Dk.q_neg, Dk.q_lt, Dk.q_le, Dk.q_gt, Dk.q_ge, Dk.q_ix0, Dk.q_ix1, Dk.q_ix2, Dk.q_is_t, Dk.q_is_s, Dk.q_is_lt, Dk.q_is_ll, Dk.q_tru, Dk.q_lent, Dk.q_lenr, Dk.q_int, Dk.q_intb, Dk.q_abs, Dk.q_tupr, Dk.q_lstt, Dk.q_lst, Dk.q_tup, Dk.q_oka, Dk.q_oke, Dk.q_okj, Dk.q_app, Dk.q_ext, Dk.q_nm, Dk.q_tp, Dk.q_sa0, Dk.q_sa1, Dk.q_isn, Dk.q_isb, Dk.q_wipe0, Dk.q_wipe1]
    unfold tR3
    rw [wp_seq]
    refine t3_ok 35 n rfl rfl l3 hn2 fun h4 g4 => ?_
    rw [nx_next]
    unfold tR4
    rw [wp_seq]
    refine t4_ok 35 n rfl (g4.lst l3) fun h5 g5 => ?_
    rw [nx_next]
    unfold tR5 t5
    rw [wp_seq]
    simp [Dd.we_ret, Dd.we_bnd, Dd.we_lift, Dd.we_var, Dd.we_args_nil, Dd.we_args_cons, Dd.we_opN, Dd.we_op1, Dd.we_op2, Dd.we_call, Dd.we_tst, Dd.we_tru, Dd.we_notT, Dd.we_andT, Dd.we_orT, Dd.we_notV, Dd.we_andV, Dd.we_orV, Dd.we_ite, Dd.we_chn, Dd.we_mth, Dd.we_slice, Dd.we_intOf, Dd.nx_next, Dd.nx_ret, Dd.nx_ex, Dd.td_next, Dd.td_cont, Dd.td_brk, Dd.td_ret, Dd.td_ex, Dd.nx_brk, Dd.nx_cont, Dd.wp_skip, Dd.wp_seq, Dd.wp_drop, Dd.wp_ret, Dd.wp_asg, Dd.wp_if, Dd.wp_raise, Dd.wp_set, Dk.wp_aug, Dk.wp_brk, Dk.p_and127, Dk.p_and255, Dk.p_and1, Dk.p_shr8, Dk.p_shr16, Dk.p_shr24, Dk.p_ashr7, Dk.p_ashr8, Dk.p_aadd, Dk.p_asub, Dd.WO, Dk.eq_ss, Dk.ne_ss, Dk.eq_ii, Dk.ne_ii, Dk.isNot_non, Dk.q_add, Dk.q_addt, Dk.q_sub, Dk.q_mod, Dk.q_fdiv, Dk.q_mulr, Dk.q_mull, Dk.q_neg, Dk.q_lt, Dk.q_le, Dk.q_gt, Dk.q_ge, Dk.q_ix0, Dk.q_ix1, Dk.q_ix2, Dk.q_is_t, Dk.q_is_s, Dk.q_is_lt, Dk.q_is_ll, Dk.q_tru, Dk.q_lent, Dk.q_lenr, Dk.q_int, Dk.q_intb, Dk.q_abs, Dk.q_tupr, Dk.q_lstt, Dk.q_lst, Dk.q_tup, Dk.q_oka, Dk.q_oke, Dk.q_okj, Dk.q_app, Dk.q_ext, Dk.q_nm, Dk.q_tp, Dk.q_sa0, Dk.q_sa1, Dk.q_isn, Dk.q_isb, Dk.q_wipe0, Dk.q_wipe1]
    refine (w13i (35 + 3) ns 1 _ _ rfl).mono ?_ fun _ _ _ z => z.elim
    rintro d h6 ⟨rfl, rfl⟩
    obtain ⟨v, hv⟩ : ∃ v, v = cellN ns 1 := ⟨_, rfl⟩
    rw [← hv]
    unfold tR6
    rw [wp_seq]
    refine t6_ok 35 v rfl fun h7 g7 => ?_
    rw [nx_next]
    unfold tR7 t7
    rw [wp_seq]
    obtain ⟨s, hs⟩ : ∃ s, s = v % 8589934592 - 4294967296 := ⟨_, rfl⟩
    simp [Dd.we_ret, Dd.we_bnd, Dd.we_lift, Dd.we_var, Dd.we_args_nil, Dd.we_args_cons, Dd.we_opN, Dd.we_op1, Dd.we_op2, Dd.we_call, Dd.we_tst, Dd.we_tru, Dd.we_notT, Dd.we_andT, Dd.we_orT, Dd.we_notV, Dd.we_andV, Dd.we_orV, Dd.we_ite, Dd.we_chn, Dd.we_mth, Dd.we_slice, Dd.we_intOf, Dd.nx_next, Dd.nx_ret, Dd.nx_ex, Dd.td_next, Dd.td_cont, Dd.td_brk, Dd.td_ret, Dd.td_ex, Dd.nx_brk, Dd.nx_cont, Dd.wp_skip, Dd.wp_seq, Dd.wp_drop, Dd.wp_ret, Dd.wp_asg, Dd.wp_if, Dd.wp_raise, Dd.wp_set, Dk.wp_aug, Dk.wp_brk, Dk.p_and127, Dk.p_and255, Dk.p_and1, Dk.p_shr8, Dk.p_shr16, Dk.p_shr24, Dk.p_ashr7, Dk.p_ashr8, Dk.p_aadd, Dk.p_asub, Dd.WO, Dk.eq_ss, Dk.ne_ss, Dk.eq_ii, Dk.ne_ii, Dk.isNot_non, Dk.q_add, Dk.q_addt, Dk.q_sub, Dk.q_mod, Dk.q_fdiv, Dk.q_mulr, Dk.q_mull, Dk.q_neg, Dk.q_lt, Dk.q_le, Dk.q_gt, Dk.q_ge, Dk.q_ix0, Dk.q_ix1, Dk.q_ix2, Dk.q_is_t, Dk.q_is_s, Dk.q_is_lt, Dk.q_is_ll, Dk.q_tru, Dk.q_lent, Dk.q_lenr, Dk.q_int, Dk.q_intb, Dk.q_abs, Dk.q_tupr, Dk.q_lstt, Dk.q_lst, Dk.q_tup, Dk.q_oka, Dk.q_oke, Dk.q_okj, Dk.q_app, Dk.q_ext, Dk.q_nm, Dk.q_tp, Dk.q_sa0, Dk.q_sa1, Dk.q_isn, Dk.q_isb, Dk.q_wipe0, Dk.q_wipe1, ← hs]
    unfold tR8 t8
    rw [wp_seq]
    obtain ⟨u, q1, q2⟩ := fold_pick s h7
    have m2 : ∀ h, mulD (.int 2) (.int s) h = some (.int (2 * s), h) := fun h => q_mull _ _ h (by decide) (by decide)
    simp [Dd.we_ret, Dd.we_bnd, Dd.we_lift, Dd.we_var, Dd.we_args_nil, Dd.we_args_cons, Dd.we_opN, Dd.we_op1, Dd.we_op2, Dd.we_call, Dd.we_tst, Dd.we_tru, Dd.we_notT, Dd.we_andT, Dd.we_orT, Dd.we_notV, Dd.we_andV, Dd.we_orV, Dd.we_ite, Dd.we_chn, Dd.we_mth, Dd.we_slice, Dd.we_intOf, Dd.nx_next, Dd.nx_ret, Dd.nx_ex, Dd.td_next, Dd.td_cont, Dd.td_brk, Dd.td_ret, Dd.td_ex, Dd.nx_brk, Dd.nx_cont, Dd.wp_skip, Dd.wp_seq, Dd.wp_drop, Dd.wp_ret, Dd.wp_asg, Dd.wp_if, Dd.wp_raise, Dd.wp_set, Dk.wp_aug, Dk.wp_brk, Dk.p_and127, Dk.p_and255, Dk.p_and1, Dk.p_shr8, Dk.p_shr16, Dk.p_shr24, Dk.p_ashr7, Dk.p_ashr8, Dk.p_aadd, Dk.p_asub, Dd.WO, Dk.eq_ss, Dk.ne_ss, Dk.eq_ii, Dk.ne_ii, Dk.isNot_non, Dk.q_add, Dk.q_addt, Dk.q_sub, Dk.q_mod, Dk.q_fdiv, Dk.q_mulr, Dk.q_mull, Dk.q_neg, Dk.q_lt, Dk.q_le, Dk.q_gt, Dk.q_ge, Dk.q_ix0, Dk.q_ix1, Dk.q_ix2, Dk.q_is_t, Dk.q_is_s, Dk.q_is_lt, Dk.q_is_ll, Dk.q_tru, Dk.q_lent, Dk.q_lenr, Dk.q_int, Dk.q_intb, Dk.q_abs, Dk.q_tupr, Dk.q_lstt, Dk.q_lst, Dk.q_tup, Dk.q_oka, Dk.q_oke, Dk.q_okj, Dk.q_app, Dk.q_ext, Dk.q_nm, Dk.q_tp, Dk.q_sa0, Dk.q_sa1, Dk.q_isn, Dk.q_isb, Dk.q_wipe0, Dk.q_wipe1, m2, newOb]
    simp only [decide_eq_true_eq] at q1
    rw [q1, q2]
    obtain ⟨h8, hh8⟩ : ∃ h8, h8 = h7 ++ [Ob.lst [D.int (2 * s), D.int (-(2 * s) - 1)]] := ⟨_, rfl⟩
    rw [← hh8]
    dsimp only
    unfold tR9
    rw [wp_seq]
    refine t9_ok 35 s rfl rfl fun h9 g9 => ?_
    rw [nx_next]
    unfold tR10 t10
    rw [wp_seq]
    simp [Dd.we_ret, Dd.we_bnd, Dd.we_lift, Dd.we_var, Dd.we_args_nil, Dd.we_args_cons, Dd.we_opN, Dd.we_op1, Dd.we_op2, Dd.we_call, Dd.we_tst, Dd.we_tru, Dd.we_notT, Dd.we_andT, Dd.we_orT, Dd.we_notV, Dd.we_andV, Dd.we_orV, Dd.we_ite, Dd.we_chn, Dd.we_mth, Dd.we_slice, Dd.we_intOf, Dd.nx_next, Dd.nx_ret, Dd.nx_ex, Dd.td_next, Dd.td_cont, Dd.td_brk, Dd.td_ret, Dd.td_ex, Dd.nx_brk, Dd.nx_cont, Dd.wp_skip, Dd.wp_seq, Dd.wp_drop, Dd.wp_ret, Dd.wp_asg, Dd.wp_if, Dd.wp_raise, Dd.wp_set, Dk.wp_aug, Dk.wp_brk, Dk.p_and127, Dk.p_and255, Dk.p_and1, Dk.p_shr8, Dk.p_shr16, Dk.p_shr24, Dk.p_ashr7, Dk.p_ashr8, Dk.p_aadd, Dk.p_asub, Dd.WO, Dk.eq_ss, Dk.ne_ss, Dk.eq_ii, Dk.ne_ii, Dk.isNot_non, Dk.q_add, Dk.q_addt, Dk.q_sub, Dk.q_mod, Dk.q_fdiv, Dk.q_mulr, Dk.q_mull, Dk.q_neg, Dk.q_lt, Dk.q_le, Dk.q_gt, Dk.q_ge, Dk.q_ix0, Dk.q_ix1, Dk.q_ix2, Dk.q_is_t, Dk.q_is_s, Dk.q_is_lt, Dk.q_is_ll, Dk.q_tru, Dk.q_lent, Dk.q_lenr, Dk.q_int, Dk.q_intb, Dk.q_abs, Dk.q_tupr, Dk.q_lstt, Dk.q_lst, Dk.q_tup, Dk.q_oka, Dk.q_oke, Dk.q_okj, Dk.q_app, Dk.q_ext, Dk.q_nm, Dk.q_tp, Dk.q_sa0, Dk.q_sa1, Dk.q_isn, Dk.q_isb, Dk.q_wipe0, Dk.q_wipe1]
    refine (w13i (35 + 3) ns 2 _ _ rfl).mono ?_ fun _ _ _ z => z.elim
    rintro d h10 ⟨rfl, rfl⟩
    obtain ⟨b, hb⟩ : ∃ b, b = (cellN ns 2).natAbs := ⟨_, rfl⟩
    obtain ⟨w, hw⟩ : ∃ w, w = b % 13 := ⟨_, rfl⟩
    have hw2 : w < 13 := by omega
    have hc2 : (b : Int) % 13 = (w : Int) := by omega
    simp [Dd.we_ret, Dd.we_bnd, Dd.we_lift, Dd.we_var, Dd.we_args_nil, Dd.we_args_cons, Dd.we_opN, Dd.we_op1, Dd.we_op2, Dd.we_call, Dd.we_tst, Dd.we_tru, Dd.we_notT, Dd.we_andT, Dd.we_orT, Dd.we_notV, Dd.we_andV, Dd.we_orV, Dd.we_ite, Dd.we_chn, Dd.we_mth, Dd.we_slice, Dd.we_intOf, Dd.nx_next, Dd.nx_ret, Dd.nx_ex, Dd.td_next, Dd.td_cont, Dd.td_brk, Dd.td_ret, Dd.td_ex, Dd.nx_brk, Dd.nx_cont, Dd.wp_skip, Dd.wp_seq, Dd.wp_drop, Dd.wp_ret, Dd.wp_asg, Dd.wp_if, Dd.wp_raise, Dd.wp_set, Dk.wp_aug, Dk.wp_brk, Dk.p_and127, Dk.p_and255, Dk.p_and1, Dk.p_shr8, Dk.p_shr16, Dk.p_shr24, Dk.p_ashr7, Dk.p_ashr8, Dk.p_aadd, Dk.p_asub, Dd.WO, Dk.eq_ss, Dk.ne_ss, Dk.eq_ii, Dk.ne_ii, Dk.isNot_non, Dk.q_add, Dk.q_addt, Dk.q_sub, Dk.q_mod, Dk.q_fdiv, Dk.q_mulr, Dk.q_mull, Dk.q_neg, Dk.q_lt, Dk.q_le, Dk.q_gt, Dk.q_ge, Dk.q_ix0, Dk.q_ix1, Dk.q_ix2, Dk.q_is_t, Dk.q_is_s, Dk.q_is_lt, Dk.q_is_ll, Dk.q_tru, Dk.q_lent, Dk.q_lenr, Dk.q_int, Dk.q_intb, Dk.q_abs, Dk.q_tupr, Dk.q_lstt, Dk.q_lst, Dk.q_tup, Dk.q_oka, Dk.q_oke, Dk.q_okj, Dk.q_app, Dk.q_ext, Dk.q_nm, Dk.q_tp, Dk.q_sa0, Dk.q_sa1, Dk.q_isn, Dk.q_isb, Dk.q_wipe0, Dk.q_wipe1, abs_eq, ← hb, hc2]
    unfold tR11 t11
    rw [wp_seq]
    simp [Dd.we_ret, Dd.we_bnd, Dd.we_lift, Dd.we_var, Dd.we_args_nil, Dd.we_args_cons, Dd.we_opN, Dd.we_op1, Dd.we_op2, Dd.we_call, Dd.we_tst, Dd.we_tru, Dd.we_notT, Dd.we_andT, Dd.we_orT, Dd.we_notV, Dd.we_andV, Dd.we_orV, Dd.we_ite, Dd.we_chn, Dd.we_mth, Dd.we_slice, Dd.we_intOf, Dd.nx_next, Dd.nx_ret, Dd.nx_ex, Dd.td_next, Dd.td_cont, Dd.td_brk, Dd.td_ret, Dd.td_ex, Dd.nx_brk, Dd.nx_cont, Dd.wp_skip, Dd.wp_seq, Dd.wp_drop, Dd.wp_ret, Dd.wp_asg, Dd.wp_if, Dd.wp_raise, Dd.wp_set, Dk.wp_aug, Dk.wp_brk, Dk.p_and127, Dk.p_and255, Dk.p_and1, Dk.p_shr8, Dk.p_shr16, Dk.p_shr24, Dk.p_ashr7, Dk.p_ashr8, Dk.p_aadd, Dk.p_asub, Dd.WO, Dk.eq_ss, Dk.ne_ss, Dk.eq_ii, Dk.ne_ii, Dk.isNot_non, Dk.q_add, Dk.q_addt, Dk.q_sub, Dk.q_mod, Dk.q_fdiv, Dk.q_mulr, Dk.q_mull, Dk.q_neg, Dk.q_lt, Dk.q_le, Dk.q_gt, Dk.q_ge, Dk.q_ix0, Dk.q_ix1, Dk.q_ix2, Dk.q_is_t, Dk.q_is_s, Dk.q_is_lt, Dk.q_is_ll, Dk.q_tru, Dk.q_lent, Dk.q_lenr, Dk.q_int, Dk.q_intb, Dk.q_abs, Dk.q_tupr, Dk.q_lstt, Dk.q_lst, Dk.q_tup, Dk.q_oka, Dk.q_oke, Dk.q_okj, Dk.q_app, Dk.q_ext, Dk.q_nm, Dk.q_tp, Dk.q_sa0, Dk.q_sa1, Dk.q_isn, Dk.q_isb, Dk.q_wipe0, Dk.q_wipe1]
    unfold tR12
    rw [wp_seq]
    refine t12_ok 35 rfl rfl rfl hw2 fun x => ?_
    rw [nx_next]
    unfold tR13
    rw [wp_seq]
    refine t13_ok 35 (2 ^ w) ns rfl rfl rfl (Nat.two_pow_pos _) fun f xs h11 g11 l11 xl hx => ?_
    rw [nx_next]
    unfold tR14
    rw [wp_seq]
    refine t14_ok 35 rfl rfl l11 hw2 hx xl fun p2 h12 g12 l12 => ?_
    have l11 := g12.lst l11
    rw [nx_next]
    unfold tR15
    rw [wp_seq]
    refine t15_ok 35 rfl rfl rfl rfl l11 l12 hw2 hx xl fun h13 g13 => ?_
    have l11 := g13.lst l11
    have l12 := g13.lst l12
    rw [nx_next]
    unfold tR16
    rw [wp_seq]
    refine t16_ok 35 rfl rfl rfl l11 l12 hw2 hx xl fun h14 g14 => ?_
    have l11 := g14.lst l11
    have l12 := g14.lst l12
    rw [nx_next]
    unfold tR17
    rw [wp_seq]
    refine t17_ok 35 rfl rfl rfl l11 l12 hw2 hx xl fun h15 g15 => ?_
    have l11 := g15.lst l11
    have l12 := g15.lst l12
    rw [nx_next]
    unfold tR18
    rw [wp_seq]
    refine t18_ok 35 rfl rfl rfl l11 l12 hw2 hx xl fun h16 g16 => ?_
    rw [nx_next]
    unfold tR19
    rw [wp_seq]
    refine t19_ok 35 ns rfl fun m h17 hm g17 => ?_
    rw [nx_next]
    exact R20 35 ns m hm hl h17 _ _ _ _ _ _ _ _ _ _ _ _ _
  obtain ⟨r, h', q, z⟩ := w
  cases r with
  | ok d => exact ⟨h', by rw [show (40 : Nat) = 39 + 1 from rfl, q]; exact congrArg (fun x => some (Rs.ok x, h')) z⟩
  | ex c p => exact z.elim
end Dk

set_option Elab.async false
set_option linter.all false
set_option maxRecDepth 100000
set_option maxHeartbeats 4000000
namespace Dk
open PySem PySem.Spec PyProof.Rows L2 Dd
end Dk
open PySem PySem.W PyProof.Rows
set_option maxRecDepth 100000 in
set_option maxHeartbeats 0 in
theorem PySem.Challenge.cw_stripestack_k07_numbers_and_levels_holds : PySem.Challenge.rw_stripestack_k07_numbers_and_levels.Holds := by
  w_on; o_law; k_head; (case hw => w_witness2); k_fill
  refine Dd.walkG (l := PySem.Challenge.rw_stripestack_k07_numbers_and_levels) (n := 63) (k := 40) (sp := fun w => Dd.spLaw _ 63) rfl (by decide) rfl ⟨rfl, by decide, by decide⟩ (fun w h Y => PySem.W.kIn_of Y) ?F (fun w H a ns hn _ hf => ⟨a, ns, rfl, hn, hf, fun _ => rfl⟩)
  case F =>
    intro w mg fa h KX G hmg base _ _
    have d0 : Dd.KOf KX fun K => Dd.DefAt K mg "put_number" Dk.s0 := by
      refine' Dd.def_mk KX G ?a ?l ?c ?k
      (case a => k_is); (case l => k_is); (case c => k_is); (case k => k_is)
    have d1 : Dd.KOf KX fun K => Dd.DefAt K mg "take_number" Dk.s1 := by
      refine' Dd.def_mk KX G ?a ?l ?c ?k
      (case a => k_is); (case l => k_is); (case c => k_is); (case k => k_is)
    have d2 : Dd.KOf KX fun K => Dd.DefAt K mg "put_word" Dk.s2 := by
      refine' Dd.def_mk KX G ?a ?l ?c ?k
      (case a => k_is); (case l => k_is); (case c => k_is); (case k => k_is)
    have d3 : Dd.KOf KX fun K => Dd.DefAt K mg "take_word" Dk.s3 := by
      refine' Dd.def_mk KX G ?a ?l ?c ?k
      (case a => k_is); (case l => k_is); (case c => k_is); (case k => k_is)
    have d4 : Dd.KOf KX fun K => Dd.DefAt K mg "fold_sign" Dk.s4 := by
      refine' Dd.def_mk KX G ?a ?l ?c ?k
      (case a => k_is); (case l => k_is); (case c => k_is); (case k => k_is)
    have d5 : Dd.KOf KX fun K => Dd.DefAt K mg "unfold_sign" Dk.s5 := by
      refine' Dd.def_mk KX G ?a ?l ?c ?k
      (case a => k_is); (case l => k_is); (case c => k_is); (case k => k_is)
    have d6 : Dd.KOf KX fun K => Dd.DefAt K mg "width_of" Dk.s6 := by
      refine' Dd.def_mk KX G ?a ?l ?c ?k
      (case a => k_is); (case l => k_is); (case c => k_is); (case k => k_is)
    have d7 : Dd.KOf KX fun K => Dd.DefAt K mg "pack" Dk.s7 := by
      refine' Dd.def_mk KX G ?a ?l ?c ?k
      (case a => k_is); (case l => k_is); (case c => k_is); (case k => k_is)
    have d8 : Dd.KOf KX fun K => Dd.DefAt K mg "unpack" Dk.s8 := by
      refine' Dd.def_mk KX G ?a ?l ?c ?k
      (case a => k_is); (case l => k_is); (case c => k_is); (case k => k_is)
    have d9 : Dd.KOf KX fun K => Dd.DefAt K mg "put_levels" Dk.s9 := by
      refine' Dd.def_mk KX G ?a ?l ?c ?k
      (case a => k_is); (case l => k_is); (case c => k_is); (case k => k_is)
    have d10 : Dd.KOf KX fun K => Dd.DefAt K mg "_end_of_equals" Dk.s10 := by
      refine' Dd.def_mk KX G ?a ?l ?c ?k
      (case a => k_is); (case l => k_is); (case c => k_is); (case k => k_is)
    have d11 : Dd.KOf KX fun K => Dd.DefAt K mg "_put_pieces" Dk.s11 := by
      refine' Dd.def_mk KX G ?a ?l ?c ?k
      (case a => k_is); (case l => k_is); (case c => k_is); (case k => k_is)
    have d12 : Dd.KOf KX fun K => Dd.DefAt K mg "take_levels" Dk.s12 := by
      refine' Dd.def_mk KX G ?a ?l ?c ?k
      (case a => k_is); (case l => k_is); (case c => k_is); (case k => k_is)
    have d13 : Dd.KOf KX fun K => Dd.DefAt K mg "_law_cell" Dk.s13 := by
      refine' Dd.def_mk KX G ?a ?l ?c ?k
      (case a => k_is); (case l => k_is); (case c => k_is); (case k => k_is)
    have d14 : Dd.KOf KX fun K => Dd.DefAt K mg "_law_numbers" Dk.s14 := by
      refine' Dd.def_mk KX G ?a ?l ?c ?k
      (case a => k_is); (case l => k_is); (case c => k_is); (case k => k_is)
    have d15 : Dd.KOf KX fun K => Dd.DefAt K mg "_law_number" Dk.s15 := by
      refine' Dd.def_mk KX G ?a ?l ?c ?k
      (case a => k_is); (case l => k_is); (case c => k_is); (case k => k_is)
    have d16 : Dd.KOf KX fun K => Dd.DefAt K mg "_law_word" Dk.s16 := by
      refine' Dd.def_mk KX G ?a ?l ?c ?k
      (case a => k_is); (case l => k_is); (case c => k_is); (case k => k_is)
    have d17 : Dd.KOf KX fun K => Dd.DefAt K mg "_law_width" Dk.s17 := by
      refine' Dd.def_mk KX G ?a ?l ?c ?k
      (case a => k_is); (case l => k_is); (case c => k_is); (case k => k_is)
    have d18 : Dd.KOf KX fun K => Dd.DefAt K mg "_law_pack" Dk.s18 := by
      refine' Dd.def_mk KX G ?a ?l ?c ?k
      (case a => k_is); (case l => k_is); (case c => k_is); (case k => k_is)
    have d19 : Dd.KOf KX fun K => Dd.DefAt K mg "_law_run" Dk.s19 := by
      refine' Dd.def_mk KX G ?a ?l ?c ?k
      (case a => k_is); (case l => k_is); (case c => k_is); (case k => k_is)
    have d20 : Dd.KOf KX fun K => Dd.DefAt K mg "_law_levels" Dk.s20 := by
      refine' Dd.def_mk KX G ?a ?l ?c ?k
      (case a => k_is); (case l => k_is); (case c => k_is); (case k => k_is)
    have d21 : Dd.KOf KX fun K => Dd.DefAt K mg "_law_refused" Dk.s21 := by
      refine' Dd.def_mk KX G ?a ?l ?c ?k
      (case a => k_is); (case l => k_is); (case c => k_is); (case k => k_is)
    have d22 : Dd.KOf KX fun K => Dd.DefAt K mg "_law_row" Dk.s22 := by
      refine' Dd.def_mk KX G ?a ?l ?c ?k
      (case a => k_is); (case l => k_is); (case c => k_is); (case k => k_is)
    have d23 : Dd.KOf KX fun K => Dd.DefAt K mg "law" Dk.s23 := by
      refine' Dd.def_mk KX G ?a ?l ?c ?k
      (case a => k_is); (case l => k_is); (case c => k_is); (case k => k_is)
    have c0 : Dd.KOf KX fun K => Dd.ConAt K w mg "MOST_BYTES" (.int 5) := by
      refine' Dd.con_int KX G ?a
      (case a => k_is)
    have c1 : Dd.KOf KX fun K => Dd.ConAt K w mg "WORD_BYTES" (.int 4) := by
      refine' Dd.con_int KX G ?a
      (case a => k_is)
    have c2 : Dd.KOf KX fun K => Dd.ConAt K w mg "LEAST_RUN" (.int 4) := by
      refine' Dd.con_int KX G ?a
      (case a => k_is)
    have c3 : Dd.KOf KX fun K => Dd.ConAt K w mg "MOST_PIECE" (.int 32) := by
      refine' Dd.con_int KX G ?a
      (case a => k_is)
    obtain ⟨C0, I0, T0⟩ : Dd.KOf KX fun K => ∃ C fI, PySem.OPart.OTxt K mg "BadFile" C fI := by
      refine' Dd.own_part KX G ?aC ?xL ?rv ?sa ?ga ?gg ?nb ?a1 ?t1 ?l1 ?c1 ?kC ?eC ?tC ?hC ?iC ?sC
      (case aC => k_is); (case xL => k_is); (case rv => decide +kernel); (case sa => k_is); (case ga => k_is); (case gg => k_is); (case nb => k_is); (case a1 => k_is); (case t1 => k_is)
      (case l1 => k_is); (case c1 => k_is); (case kC => k_is); (case eC => k_is); (case tC => k_is); (case hC => k_is); (case iC => k_is); (case sC => first | rfl | k_is)
    have bl : ∀ x ∈ Dd.bltNms, mg x = none := by
      have z : ∀ x ∈ (["len", "abs", "int", "str", "tuple", "list", "all", "any", "ord", "repr", "min", "max", "tuple", "str", "int", "bool", "list", "dict", "isinstance", "range", "enumerate", "zip", "reversed", "sorted", "ValueError"] : List PySem.Str), mg x = none := by
        refine List.forall_mem_cons.mpr ⟨by refine' PySem.W.mg_none_of KX G ?_; k_is, ?_⟩
        refine List.forall_mem_cons.mpr ⟨by refine' PySem.W.mg_none_of KX G ?_; k_is, ?_⟩
        refine List.forall_mem_cons.mpr ⟨by refine' PySem.W.mg_none_of KX G ?_; k_is, ?_⟩
        refine List.forall_mem_cons.mpr ⟨by refine' PySem.W.mg_none_of KX G ?_; k_is, ?_⟩
        refine List.forall_mem_cons.mpr ⟨by refine' PySem.W.mg_none_of KX G ?_; k_is, ?_⟩
        refine List.forall_mem_cons.mpr ⟨by refine' PySem.W.mg_none_of KX G ?_; k_is, ?_⟩
        refine List.forall_mem_cons.mpr ⟨by refine' PySem.W.mg_none_of KX G ?_; k_is, ?_⟩
        refine List.forall_mem_cons.mpr ⟨by refine' PySem.W.mg_none_of KX G ?_; k_is, ?_⟩
        refine List.forall_mem_cons.mpr ⟨by refine' PySem.W.mg_none_of KX G ?_; k_is, ?_⟩
        refine List.forall_mem_cons.mpr ⟨by refine' PySem.W.mg_none_of KX G ?_; k_is, ?_⟩
        refine List.forall_mem_cons.mpr ⟨by refine' PySem.W.mg_none_of KX G ?_; k_is, ?_⟩
        refine List.forall_mem_cons.mpr ⟨by refine' PySem.W.mg_none_of KX G ?_; k_is, ?_⟩
        refine List.forall_mem_cons.mpr ⟨by refine' PySem.W.mg_none_of KX G ?_; k_is, ?_⟩
        refine List.forall_mem_cons.mpr ⟨by refine' PySem.W.mg_none_of KX G ?_; k_is, ?_⟩
        refine List.forall_mem_cons.mpr ⟨by refine' PySem.W.mg_none_of KX G ?_; k_is, ?_⟩
        refine List.forall_mem_cons.mpr ⟨by refine' PySem.W.mg_none_of KX G ?_; k_is, ?_⟩
        refine List.forall_mem_cons.mpr ⟨by refine' PySem.W.mg_none_of KX G ?_; k_is, ?_⟩
        refine List.forall_mem_cons.mpr ⟨by refine' PySem.W.mg_none_of KX G ?_; k_is, ?_⟩
        refine List.forall_mem_cons.mpr ⟨by refine' PySem.W.mg_none_of KX G ?_; k_is, ?_⟩
        refine List.forall_mem_cons.mpr ⟨by refine' PySem.W.mg_none_of KX G ?_; k_is, ?_⟩
        refine List.forall_mem_cons.mpr ⟨by refine' PySem.W.mg_none_of KX G ?_; k_is, ?_⟩
        refine List.forall_mem_cons.mpr ⟨by refine' PySem.W.mg_none_of KX G ?_; k_is, ?_⟩
        refine List.forall_mem_cons.mpr ⟨by refine' PySem.W.mg_none_of KX G ?_; k_is, ?_⟩
        refine List.forall_mem_cons.mpr ⟨by refine' PySem.W.mg_none_of KX G ?_; k_is, ?_⟩
        refine List.forall_mem_cons.mpr ⟨by refine' PySem.W.mg_none_of KX G ?_; k_is, ?_⟩
        exact fun x hx => nomatch hx
      exact z
    have L : Dd.KOf KX fun K => Dd.Lk w K mg Dk.pg (fun _ => C0) (fun _ => "part") := by
      refine ⟨?f1, bl, ?f2, ?f3, ?f4⟩
      case f1 =>
        have z : Dd.KOf KX fun K => ∀ f ∈ Dk.pg.fns, Dd.LkF K mg f := by
          refine List.forall_mem_cons.mpr ⟨Dd.lkF Dk.o0 d0, ?_⟩
          refine List.forall_mem_cons.mpr ⟨Dd.lkF Dk.o1 d1, ?_⟩
          refine List.forall_mem_cons.mpr ⟨Dd.lkF Dk.o2 d2, ?_⟩
          refine List.forall_mem_cons.mpr ⟨Dd.lkF Dk.o3 d3, ?_⟩
          refine List.forall_mem_cons.mpr ⟨Dd.lkF Dk.o4 d4, ?_⟩
          refine List.forall_mem_cons.mpr ⟨Dd.lkF Dk.o5 d5, ?_⟩
          refine List.forall_mem_cons.mpr ⟨Dd.lkF Dk.o6 d6, ?_⟩
          refine List.forall_mem_cons.mpr ⟨Dd.lkF Dk.o7 d7, ?_⟩
          refine List.forall_mem_cons.mpr ⟨Dd.lkF Dk.o8 d8, ?_⟩
          refine List.forall_mem_cons.mpr ⟨Dd.lkF Dk.o9 d9, ?_⟩
          refine List.forall_mem_cons.mpr ⟨Dd.lkF Dk.o10 d10, ?_⟩
          refine List.forall_mem_cons.mpr ⟨Dd.lkF Dk.o11 d11, ?_⟩
          refine List.forall_mem_cons.mpr ⟨Dd.lkF Dk.o12 d12, ?_⟩
          refine List.forall_mem_cons.mpr ⟨Dd.lkF Dk.o13 d13, ?_⟩
          refine List.forall_mem_cons.mpr ⟨Dd.lkF Dk.o14 d14, ?_⟩
          refine List.forall_mem_cons.mpr ⟨Dd.lkF Dk.o15 d15, ?_⟩
          refine List.forall_mem_cons.mpr ⟨Dd.lkF Dk.o16 d16, ?_⟩
          refine List.forall_mem_cons.mpr ⟨Dd.lkF Dk.o17 d17, ?_⟩
          refine List.forall_mem_cons.mpr ⟨Dd.lkF Dk.o18 d18, ?_⟩
          refine List.forall_mem_cons.mpr ⟨Dd.lkF Dk.o19 d19, ?_⟩
          refine List.forall_mem_cons.mpr ⟨Dd.lkF Dk.o20 d20, ?_⟩
          refine List.forall_mem_cons.mpr ⟨Dd.lkF Dk.o21 d21, ?_⟩
          refine List.forall_mem_cons.mpr ⟨Dd.lkF Dk.o22 d22, ?_⟩
          refine List.forall_mem_cons.mpr ⟨Dd.lkF Dk.o23 d23, ?_⟩
          exact fun x hx => nomatch hx
        exact fun k f hf => z f (List.mem_of_getElem? hf)
      case f2 =>
        have z : Dd.KOf KX fun K => ∀ p ∈ Dk.pg.con, Dd.ConAt K w mg p.1 p.2 := by
          refine List.forall_mem_cons.mpr ⟨c0, ?_⟩
          refine List.forall_mem_cons.mpr ⟨c1, ?_⟩
          refine List.forall_mem_cons.mpr ⟨c2, ?_⟩
          refine List.forall_mem_cons.mpr ⟨c3, ?_⟩
          exact fun x hx => nomatch hx
        exact fun x d hd => z (x, d) (Dd.lookup_mem hd)
      case f3 =>
        intro x c hx
        rcases Dd.ex0 hx with ⟨rfl, rfl⟩ | hx
        · exact Dd.ExcT.of_part T0
        cases hx
      case f4 =>
        intro c x f hx
        match c, hx with
        | 0, hx => cases hx; rfl
        | _ + 1, hx => cases hx
    exact Dd.law_of L (li := 23) (f := Dk.f23) rfl hmg Dk.main

